/-
  The program's turning of a cell in a channel and its seeing of one, on hands and channels that are kept whole; the lists are the call's own.
  The program's waiting in a cell, on hands and channels that are kept whole; the lists are the call's own.
  The program's waiting to send and its calling, by what they hand on; on hands and channels that are kept whole; the lists are the call's own.
  The program's asking ahead of and behind a touch, whatever the touch, on hands and channels that are kept whole; lists lie in memory.
  The program's word of one's own, what is heard, fetched and marked when one is parked, on hands and channels that are kept whole; the lists are the call's own.
  The program's touch of parking, every case, on hands and channels that are kept whole; the lists are the call's own.
  The program's step of parking: its face catches what gives up; lists lie in memory.
  FnParks returns true for every list of bytes that it is called with, and turns nothing; no condition.
  How the arguments of the laws are opened: numbers, structs of numbers, and slices of these; no condition but that they can be read.
  How a list of bytes is opened that is an argument of a law; no condition but that it can be read.
  FnParks returns true for every list of bytes that it is called with, and turns nothing; no condition.
-/
import Derived.Test.YtkiingmgpobgnaaGreatP12
import Derived.Test.YtkiingmgpobgnaaGreatP03
import Derived.BigRegion
import Derived.Test.YtkiingmgpobgnaaGreatP06
import Derived.Laws.EntriesVeiled
import Derived.Test.YtkiingmgpobgnaaGreatP11
import Derived.Deep.RegionHeld3
import Derived.WalkLawsBesides
import Derived.Deep.DeepCutAuto
import Derived.Recover
import Derived.Test.YtkiingmgpobgnaaGreatRows
import Derived.Test.YtkiingmgpobgnaaGreatP01
import Derived.ProofKit
import Derived.OpenShut
import Derived.ShutString
import Derived.ChangeOld
import Derived.Deep.Slices
import Derived.Deep.Fields
set_option linter.unusedSimpArgs false
set_option linter.unusedVariables false
namespace Go.Proofs.YtkiingmgpobgnaaGreat
open Go.RowKit
set_option linter.unusedSimpArgs false
attribute [local simp] bx_size
attribute [local go_sem ↓] zeroHand zeroChan toLHand toLChan toVHand toVChan storeHand storeChan storeHandC storeChanC
end Go.Proofs.YtkiingmgpobgnaaGreat
set_option linter.unusedSimpArgs false
set_option linter.unusedVariables false
namespace Go.Proofs.YtkiingmgpobgnaaGreat
open Go.RowKit
set_option linter.unusedSimpArgs false
attribute [local simp] bx_size
attribute [local go_sem ↓] zeroHand zeroChan toLHand toLChan toVHand toVChan storeHand storeChan storeHandC storeChanC
end Go.Proofs.YtkiingmgpobgnaaGreat
set_option linter.unusedSimpArgs false
set_option linter.unusedVariables false
namespace Go.Proofs.YtkiingmgpobgnaaGreat
open Go.RowKit
set_option linter.unusedSimpArgs false
attribute [local simp] bx_size
attribute [local go_sem ↓] zeroHand zeroChan toLHand toLChan toVHand toVChan storeHand storeChan storeHandC storeChanC
end Go.Proofs.YtkiingmgpobgnaaGreat
set_option linter.unusedSimpArgs false
set_option linter.unusedVariables false
namespace Go.Proofs.YtkiingmgpobgnaaGreat
open Go.RowKit
set_option linter.unusedSimpArgs false
attribute [local simp] bx_size
attribute [local go_sem ↓] zeroHand zeroChan toLHand toLChan toVHand toVChan storeHand storeChan storeHandC storeChanC
theorem iChanOk_any (c:Ch) (a b:Option Addr) (p q:Nat) (w:World) (h1:Seg w w.heap.size a c.cells.length 3 (cellF c.cells)) (h2:Seg w w.heap.size b c.words.length 1 (intF c.words)) (m1:c.cells.length≤maxLen) (m2:c.words.length≤maxLen) :
    Calls Tryz.prog 10 #[.agg (cvals c (.slice a c.cells.length p) (.slice b c.words.length q))] w fun r w'=>r=.returned (.bool (chanOk c))∧Below w.heap.size w w':=chanOk_any c a b p q w h1 h2 m1 m2
theorem iCopied_any (c:Ch) (a b:Option Addr) (p q:Nat) (w:World) (h1:Seg w w.heap.size a c.cells.length 3 (cellF c.cells)) (z1:a=none→p=0) (h2:Seg w w.heap.size b c.words.length 1 (intF c.words)) (z2:b=none→q=0) (m1:c.cells.length≤1099511627776) (m2:c.words.length≤1099511627776) :
    Calls Tryz.prog 56 #[.agg (cvals c (.slice a c.cells.length p) (.slice b c.words.length q))] w fun r w'=>(∃ v1 v2,r=.returned (.agg (cvals c v1 v2))∧OCells w' w.heap.size v1 c.cells∧OInts w' w.heap.size v2 c.words)∧Below w.heap.size w w':=copied_any c a b p q w h1 z1 h2 z2 m1 m2
/-- What is answered behind a touch. -/
def fin7 (x:St):St:=if chanOk x.1 && handOk x.2.1 then x else nothing
theorem own_max {w:World} {lo:Nat} {e:TypeId} {k n p:Nat} {a:Option Addr} {xs:List Value} (h:w.ownsRow lo e k (.slice a n p) n xs):n≤maxLen:=by
  rcases h.2 with ⟨_,h1⟩|⟨g,cap,cur,_,_,_,h1,h2,_⟩
  · omega
  · exact Nat.le_trans h1 h2
theorem hp_onl {w w':World} {v1 v2:Value} {lo lo' b k k' n n':Nat} {e e' T:TypeId} {x:Array Value} {xs xs':List Value} (hz:hp w b=some (.cells x T)) (hO:Onl v1.ownBlock v2.ownBlock w w') (o1:w.ownsRow lo e k v1 n xs) (o2:w.ownsRow lo' e' k' v2 n' xs') (h1:e≠T) (h2:e'≠T):hp w' b=some (.cells x T) :=
  (onlHp hO (bO hz).2.2 (fun e=>own_offs o1 hz h1 _ e.symm rfl) (fun e=>own_offs o2 hz h2 _ e.symm rfl)).trans hz
theorem IsBox.onl {w w':World} {v v1 v2:Value} {lo lo1 lo2 k k' n n':Nat} {e e' T:TypeId} {x:Array Value} {xs xs':List Value} (h:IsBox w v lo x T) (hO:Onl v1.ownBlock v2.ownBlock w w') (o1:w.ownsRow lo1 e k v1 n xs) (o2:w.ownsRow lo2 e' k' v2 n' xs') (h1:e≠T) (h2:e'≠T):IsBox w' v lo x T:=by
  obtain ⟨b,eb,hl,hz⟩:=h
  exact ⟨b,eb,hl,hp_onl hz hO o1 o2 h1 h2⟩
set_option maxRecDepth 100000 in
set_option maxHeartbeats 8000000 in
theorem touched_via (F:Nat) (x:St) (c:Ch) (h:Ha) (a b:Option Addr) (p q:Nat) (w:World) (h1:Seg w w.heap.size a c.cells.length 3 (cellF c.cells)) (z1:a=none→p=0) (h2:Seg w w.heap.size b c.words.length 1 (intF c.words)) (z2:b=none→q=0) (hc:chanOk c=true) (hh:handOk h=true) (eg:∀ args w,(callFunc F args).run Tryz.prog w=.ok (.enter F args) w) (HF:∀ (v1 v2:Value) (lo:Nat) (W:World),OCells W lo v1 c.cells→OInts W lo v2 c.words→lo≤W.heap.size→Calls Tryz.prog F #[.agg (cvals c v1 v2),.agg (hvals h)] W fun r w'=>StepO W w' lo v1 v2 x r) :
    Calls Tryz.prog 21 #[.func (.func F) #[] #[],.agg (cvals c (.slice a c.cells.length p) (.slice b c.words.length q)),.agg (hvals h)] w fun r w'=>StepN w w' (fin7 x) r:=by
  obtain ⟨n1,n2⟩:=chan_len hc
  have l1:c.cells.length≤maxLen:=by unfold maxLen;omega
  have l2:c.words.length≤maxLen:=by unfold maxLen;omega
  have m1:c.cells.length≤1099511627776:=by omega
  have m2:c.words.length≤1099511627776:=by omega
  have H1:=Lib.hid h1
  have H2:=Lib.hid h2
  have Z1:=Lib.hid z1
  have Z2:=Lib.hid z2
  clear h1 h2 z1 z2 n1 n2
  obtain ⟨X,hXe⟩:∃ X,X=fin7 x:=⟨_,rfl⟩
  rw [← hXe]
  have HFF:=Lib.hid HF
  clear HF
  go_enter Tryz.func21,Tryz.ntmps21
  go_wp2_with fail;refine bHit w (by exact zB) fun bb=>?_;refine (iChanOk_any c a b p q _ ((H1.out.below bb).more bb.size) ((H2.out.below bb).more bb.size) l1 l2).mono ?_;rintro _ w1 ⟨rfl,hbw1⟩;have hCw1:Below w.heap.size w w1:=bT bb hbw1;have hsw1:=hbw1.size;(try simp at hsw1);have zz:=q4 hbw1 (b:=w.heap.size);(try simp [go_sem] at zz);(try clear z_wppp x_wppp f_wppp l_wppp);(try clear z_wpp x_wpp f_wpp l_wpp);(try clear z_wp x_wp f_wp l_wp);(try clear z_w x_w f_w l_w);obtain ⟨z_wppp,z_wpp,z_wp,z_w⟩:=zz;obtain ⟨x_wppp,f_wppp,l_wppp⟩:=bO z_wppp;obtain ⟨x_wpp,f_wpp,l_wpp⟩:=bO z_wpp;obtain ⟨x_wp,f_wp,l_wp⟩:=bO z_wp;obtain ⟨x_w,f_w,l_w⟩:=bO z_w;clear hbw1 bb
  rw [hc]
  go_wp2_with fail;refine bHit w (by exact zB) fun bb=>?_;refine (handOk_any h _).mono ?_;rintro _ w2 ⟨rfl,hbw2⟩;have hCw2:Below w.heap.size w w2:=bT bb hbw2;have hsw2:=hbw2.size;(try simp at hsw2);have zz:=q4 hbw2 (b:=w.heap.size);(first|simp [go_sem,z_wppp,z_wpp,z_wp,z_w,l_w,l_wp,l_wpp,l_wppp] at zz|simp [go_sem] at zz|skip);(try clear z_wppp x_wppp f_wppp l_wppp);(try clear z_wpp x_wpp f_wpp l_wpp);(try clear z_wp x_wp f_wp l_wp);(try clear z_w x_w f_w l_w);obtain ⟨z_wppp,z_wpp,z_wp,z_w⟩:=zz;obtain ⟨x_wppp,f_wppp,l_wppp⟩:=bO z_wppp;obtain ⟨x_wpp,f_wpp,l_wpp⟩:=bO z_wpp;obtain ⟨x_wp,f_wp,l_wp⟩:=bO z_wp;obtain ⟨x_w,f_w,l_w⟩:=bO z_w;clear hbw2 bb
  rw [hh]
  go_upto_region 3 with fail
  refine wp_region_inv [[],[],[1],[],[0,1,2,3],[0,1,2,3,4],[0,1,2,3,4,5],[0,1,2,3,4,5],[0,1,2,3,4,5],[],[],[0,1,2,3,4,5,6,9],[0,1,2,3,4,5,7,10],[0,1,2,3,4,5,8]] [25,26,27,28,29,24,30,31,32,9,10,11] (fun l s wx=>(Below w2.heap.size w2 wx)∧(l 0=true→s 25=.func (.func F) #[] #[])∧(l 1=true→s 26=.agg (cvals c (.slice a c.cells.length p) (.slice b c.words.length q)))∧(l 2=true→l 4=false→s 27=.agg (cvals c (s 1001) (s 1002))∧OCells wx w2.heap.size (s 1001) c.cells∧OInts wx w2.heap.size (s 1002) c.words)∧(l 3=true→s 28=.agg (hvals h))∧(l 4=true→s 29=.tuple #[.agg (cvals x.1 (s 1003) (s 1004)),.agg (hvals x.2.1),.bool x.2.2]∧OCells wx w2.heap.size (s 1003) x.1.cells∧OInts wx w2.heap.size (s 1004) x.1.words)∧(l 5=true→s 24=.tuple #[.agg (cvals x.1 (s 1003) (s 1004)),.agg (hvals x.2.1),.bool x.2.2])∧(l 6=true→s 30=.agg (cvals x.1 (s 1003) (s 1004)))∧(l 7=true→s 31=.agg (hvals x.2.1))∧(l 8=true→s 32=.bool x.2.2)∧(l 9=true→IsBox wx (s 9) w2.heap.size (cond (l 11) (cvals x.1 (s 1003) (s 1004)) (cvals Ch.zero (.slice none 0 0) (.slice none 0 0))) 27)∧(l 10=true→IsBox wx (s 10) w2.heap.size (cond (l 12) (hvals x.2.1) (hvals Ha.zero)) 31)∧(l 13=true→s 11=.bool x.2.2)) (by kernel_rfl) (by kernel_rfl) (by kernel_rfl) (fun s=>by (simp only [fill,fillA,List.setIfInBounds_toArray,List.set_cons_zero,List.set_cons_succ];rfl)) (fun s=>⟨(Below.refl _ _).drew,fun h=>absurd h Bool.false_ne_true,fun h=>absurd h Bool.false_ne_true,fun h=>absurd h Bool.false_ne_true,fun h=>absurd h Bool.false_ne_true,fun h=>absurd h Bool.false_ne_true,fun h=>absurd h Bool.false_ne_true,fun h=>absurd h Bool.false_ne_true,fun h=>absurd h Bool.false_ne_true,fun h=>absurd h Bool.false_ne_true,fun h=>absurd h Bool.false_ne_true,fun h=>absurd h Bool.false_ne_true,fun h=>absurd h Bool.false_ne_true⟩) ?_ ?_
  refine ⟨?_,?_,?_,?_,?_,?_,?_,?_,?_,?_,?_,?_,?_,?_,trivial⟩;rotate_left 14
  · intro l s w8 hall hf
    have hB:=hf.1
    obtain ⟨_,oX1,oX2⟩:=(hf.2.2.2.2.2.1 (hall 4 rfl))
    obtain ⟨gc,ea,hgc,z_gc⟩:=(hf.2.2.2.2.2.2.2.2.2.2.1 (hall 9 rfl))
    obtain ⟨gh,eb,hgh,z_gh⟩:=(hf.2.2.2.2.2.2.2.2.2.2.2.1 (hall 10 rfl))
    have ec:=(hf.2.2.2.2.2.2.2.2.2.2.2.2 (hall 13 rfl))
    rw [hall 11 rfl] at z_gc
    rw [hall 12 rfl] at z_gh
    dsimp only [cond] at z_gc z_gh
    simp only [ea,eb,ec]
    clear ea eb ec hf hall
    generalize s 1003=v1 at *
    generalize s 1004=v2 at *
    have hCw8:Below w.heap.size w w8:=bT hCw2 hB
    have z8:=hpS z_wpp hB
    have z9:=hpS z_wppp hB
    have hq2:=(bO z_wppp).2.2
    clear z_w x_w f_w l_w z_wp x_wp f_wp l_wp z_wpp x_wpp f_wpp l_wpp z_wppp x_wppp f_wppp l_wppp
    have z_wpp:=z8
    have z_wppp:=z9
    clear z8 z9
    have hz8:=hB.size
    have hg0:w.heap.size+1+1<gc:=by omega
    have hg1:w.heap.size+1+1+1<gc:=by omega
    have hg2:w.heap.size+1+1<gh:=by omega
    have hg3:w.heap.size+1+1+1<gh:=by omega
    clear HFF
    obtain ⟨c2,h2,ok⟩:=x
    replace oX1:OCells w8 (w.heap.size+1+1+1+1) v1 c2.cells:=own_lo oX1 (by omega)
    replace oX2:OInts w8 (w.heap.size+1+1+1+1) v2 c2.words:=own_lo oX2 (by omega)
    dsimp only at z_gc z_gh ⊢
    obtain ⟨ya,yp,rfl,G1⟩:=oX1.seg
    obtain ⟨yb,yq,rfl,G2⟩:=oX2.seg
    obtain ⟨x_gc,f_gc,l_gc⟩:=bO z_gc
    obtain ⟨x_gh,f_gh,l_gh⟩:=bO z_gh
    obtain ⟨x_wpp,f_wpp,l_wpp⟩:=bO z_wpp
    obtain ⟨x_wppp,f_wppp,l_wppp⟩:=bO z_wppp
    have L1:=own_max oX1
    have L2:=own_max oX2
    have K1:=Lib.hid G1
    have K2:=Lib.hid G2
    clear G1 G2
    have T:=Lib.hid fun W=>refused_any W w.heap.size (.slice none 0 0) (.slice none 0 0)
    have d1:∀ j,(Value.slice none 0 0).ownBlock=some j→w.heap.size+1+1+1+1≤j:=fun j hj=>by cases hj
    have d2:=d1
    cases hc2:chanOk c2 with
    | false =>
      have E:X=nothing:=hXe.trans (by simp [fin7,hc2])
      rw [← E] at T
      clear E hXe
      go_wp2_with fail
      refine (iChanOk_any c2 ya yb yp yq _ ((K1.out.below (by exact zB)).more (by (try simp) <;> omega)) ((K2.out.below (by exact zB)).more (by (try simp) <;> omega)) L1 L2).mono ?_
      rintro _ w9 ⟨rfl,hbw9⟩
      have hCw9:Below w.heap.size w w9:=bT (by exact zB) hbw9
      have hKw9:Below w8.heap.size w8 w9:=bT (by exact zB) hbw9
      have hsw9:=hbw9.size;(try (simp at hsw9));have zz:=hQ hbw9 (b:=gc);(first|(simp [go_sem,z_gc,l_gc] at zz)|(simp [go_sem] at zz));(try clear x_gc f_gc);(try clear z_gc);have z_gc:=zz;clear zz;(try clear l_gc);obtain ⟨x_gc,f_gc,l_gc⟩:=bO z_gc;have zz:=hQ hbw9 (b:=gh);(first|(simp [go_sem,z_gh,l_gh] at zz)|(simp [go_sem] at zz));(try clear x_gh f_gh);(try clear z_gh);have z_gh:=zz;clear zz;(try clear l_gh);obtain ⟨x_gh,f_gh,l_gh⟩:=bO z_gh;have zz:=hQ hbw9 (b:=w.heap.size+1+1);(first|(simp [go_sem,z_wpp,l_wpp] at zz)|(simp [go_sem] at zz));(try clear x_wpp f_wpp);(try clear z_wpp);have z_wpp:=zz;clear zz;(try clear l_wpp);obtain ⟨x_wpp,f_wpp,l_wpp⟩:=bO z_wpp;have zz:=hQ hbw9 (b:=w.heap.size+1+1+1);(first|(simp [go_sem,z_wppp,l_wppp] at zz)|(simp [go_sem] at zz));(try clear x_wppp f_wppp);(try clear z_wppp);have z_wppp:=zz;clear zz;(try clear l_wppp);obtain ⟨x_wppp,f_wppp,l_wppp⟩:=bO z_wppp
      rw [hc2]
      go_wp2_with fail
      refine (T.out _).mono ?_
      rintro _ w11 ⟨⟨y1,y2,rfl,oY1,oY2,fY1,fY2⟩,hbw11⟩
      have hCw11:Below w.heap.size w w11:=bT (by exact zB) hbw11
      have hsw11:=hbw11.size;(try (simp at hsw11));have zz:=hQ hbw11 (b:=w.heap.size+1+1);(first|(simp [go_sem,z_wpp,l_wpp] at zz)|(simp [go_sem] at zz));(try clear x_wpp f_wpp);(try clear z_wpp);have z_wpp:=zz;clear zz;(try clear l_wpp);obtain ⟨x_wpp,f_wpp,l_wpp⟩:=bO z_wpp;have zz:=hQ hbw11 (b:=w.heap.size+1+1+1);(first|(simp [go_sem,z_wppp,l_wppp] at zz)|(simp [go_sem] at zz));(try clear x_wppp f_wppp);(try clear z_wppp);have z_wppp:=zz;clear zz;(try clear l_wppp);obtain ⟨x_wppp,f_wppp,l_wppp⟩:=bO z_wppp
      have hoff1:∀ j,w.heap.size≤j→j<w.heap.size+1+1+1+1→y1.ownBlock≠some j:=fun j _ h2=>fY1.off2 d1 h2 (by (try simp) <;> omega);have hoff2:∀ j,w.heap.size≤j→j<w.heap.size+1+1+1+1→y2.ownBlock≠some j:=fun j _ h2=>fY2.off2 d2 h2 (by (try simp) <;> omega);have fr1:Fresh w (.slice none 0 0) y1:=fun j hj=>.inr (fY1.up d1 (by (try simp) <;> omega) (by (try simp) <;> omega) j hj);have fr2:Fresh w (.slice none 0 0) y2:=fun j hj=>.inr (fY2.up d2 (by (try simp) <;> omega) (by (try simp) <;> omega) j hj);obtain ⟨ya,yp,rfl,_⟩:=oY1.seg;obtain ⟨yb,yq,rfl,_⟩:=oY2.seg
      go_wp2
      refine bodyPost_ret (res_cct Tryz.results21 rfl (ldChan X.1 (.slice ya X.1.cells.length yp) (.slice yb X.1.words.length yq) (by simp [go_sem, *])) rfl (ldHand X.2.1 (by simp [go_sem, *]))) rfl ⟨⟨_,_,rfl,?_,?_,fr1,fr2⟩,by exact zB⟩
      · exact zP oY1 oY1 hoff1
      · exact zP oY2 oY2 hoff2
    | true =>
      cases hh2:handOk h2 with
      | false =>
        have E:X=nothing:=hXe.trans (by simp [fin7,hh2])
        rw [← E] at T
        clear E hXe
        go_wp2_with fail
        refine (iChanOk_any c2 ya yb yp yq _ ((K1.out.below (by exact zB)).more (by (try simp) <;> omega)) ((K2.out.below (by exact zB)).more (by (try simp) <;> omega)) L1 L2).mono ?_
        rintro _ w9 ⟨rfl,hbw9⟩
        have hCw9:Below w.heap.size w w9:=bT (by exact zB) hbw9
        have hKw9:Below w8.heap.size w8 w9:=bT (by exact zB) hbw9
        have hsw9:=hbw9.size;(try (simp at hsw9));have zz:=hQ hbw9 (b:=gc);(first|(simp [go_sem,z_gc,l_gc] at zz)|(simp [go_sem] at zz));(try clear x_gc f_gc);(try clear z_gc);have z_gc:=zz;clear zz;(try clear l_gc);obtain ⟨x_gc,f_gc,l_gc⟩:=bO z_gc;have zz:=hQ hbw9 (b:=gh);(first|(simp [go_sem,z_gh,l_gh] at zz)|(simp [go_sem] at zz));(try clear x_gh f_gh);(try clear z_gh);have z_gh:=zz;clear zz;(try clear l_gh);obtain ⟨x_gh,f_gh,l_gh⟩:=bO z_gh;have zz:=hQ hbw9 (b:=w.heap.size+1+1);(first|(simp [go_sem,z_wpp,l_wpp] at zz)|(simp [go_sem] at zz));(try clear x_wpp f_wpp);(try clear z_wpp);have z_wpp:=zz;clear zz;(try clear l_wpp);obtain ⟨x_wpp,f_wpp,l_wpp⟩:=bO z_wpp;have zz:=hQ hbw9 (b:=w.heap.size+1+1+1);(first|(simp [go_sem,z_wppp,l_wppp] at zz)|(simp [go_sem] at zz));(try clear x_wppp f_wppp);(try clear z_wppp);have z_wppp:=zz;clear zz;(try clear l_wppp);obtain ⟨x_wppp,f_wppp,l_wppp⟩:=bO z_wppp
        rw [hc2]
        go_wp2_with fail
        refine (handOk_any h2 _).mono ?_
        rintro _ w10 ⟨rfl,hbw10⟩
        have hCw10:Below w.heap.size w w10:=bT (by exact zB) hbw10
        have hKw10:Below w8.heap.size w8 w10:=bT (by exact zB) hbw10
        have hsw10:=hbw10.size;(try (simp at hsw10));have zz:=hQ hbw10 (b:=gc);(first|(simp [go_sem,z_gc,l_gc] at zz)|(simp [go_sem] at zz));(try clear x_gc f_gc);(try clear z_gc);have z_gc:=zz;clear zz;(try clear l_gc);obtain ⟨x_gc,f_gc,l_gc⟩:=bO z_gc;have zz:=hQ hbw10 (b:=gh);(first|(simp [go_sem,z_gh,l_gh] at zz)|(simp [go_sem] at zz));(try clear x_gh f_gh);(try clear z_gh);have z_gh:=zz;clear zz;(try clear l_gh);obtain ⟨x_gh,f_gh,l_gh⟩:=bO z_gh;have zz:=hQ hbw10 (b:=w.heap.size+1+1);(first|(simp [go_sem,z_wpp,l_wpp] at zz)|(simp [go_sem] at zz));(try clear x_wpp f_wpp);(try clear z_wpp);have z_wpp:=zz;clear zz;(try clear l_wpp);obtain ⟨x_wpp,f_wpp,l_wpp⟩:=bO z_wpp;have zz:=hQ hbw10 (b:=w.heap.size+1+1+1);(first|(simp [go_sem,z_wppp,l_wppp] at zz)|(simp [go_sem] at zz));(try clear x_wppp f_wppp);(try clear z_wppp);have z_wppp:=zz;clear zz;(try clear l_wppp);obtain ⟨x_wppp,f_wppp,l_wppp⟩:=bO z_wppp
        rw [hh2]
        have r1:=own_below oX1 hKw10
        have r2:=own_below oX2 hKw10
        go_wp2_with fail
        refine (T.out _).mono ?_
        rintro _ w11 ⟨⟨y1,y2,rfl,oY1,oY2,fY1,fY2⟩,hbw11⟩
        have hCw11:Below w.heap.size w w11:=bT (by exact zB) hbw11
        have hsw11:=hbw11.size;(try (simp at hsw11));have zz:=hQ hbw11 (b:=w.heap.size+1+1);(first|(simp [go_sem,z_wpp,l_wpp] at zz)|(simp [go_sem] at zz));(try clear x_wpp f_wpp);(try clear z_wpp);have z_wpp:=zz;clear zz;(try clear l_wpp);obtain ⟨x_wpp,f_wpp,l_wpp⟩:=bO z_wpp;have zz:=hQ hbw11 (b:=w.heap.size+1+1+1);(first|(simp [go_sem,z_wppp,l_wppp] at zz)|(simp [go_sem] at zz));(try clear x_wppp f_wppp);(try clear z_wppp);have z_wppp:=zz;clear zz;(try clear l_wppp);obtain ⟨x_wppp,f_wppp,l_wppp⟩:=bO z_wppp
        have hoff1:∀ j,w.heap.size≤j→j<w.heap.size+1+1+1+1→y1.ownBlock≠some j:=fun j _ h2=>fY1.off2 d1 h2 (by (try simp) <;> omega);have hoff2:∀ j,w.heap.size≤j→j<w.heap.size+1+1+1+1→y2.ownBlock≠some j:=fun j _ h2=>fY2.off2 d2 h2 (by (try simp) <;> omega);have fr1:Fresh w (.slice none 0 0) y1:=fun j hj=>.inr (fY1.up d1 (by (try simp) <;> omega) (by (try simp) <;> omega) j hj);have fr2:Fresh w (.slice none 0 0) y2:=fun j hj=>.inr (fY2.up d2 (by (try simp) <;> omega) (by (try simp) <;> omega) j hj);obtain ⟨ya,yp,rfl,_⟩:=oY1.seg;obtain ⟨yb,yq,rfl,_⟩:=oY2.seg
        go_wp2
        refine bodyPost_ret (res_cct Tryz.results21 rfl (ldChan X.1 (.slice ya X.1.cells.length yp) (.slice yb X.1.words.length yq) (by simp [go_sem, *])) rfl (ldHand X.2.1 (by simp [go_sem, *]))) rfl ⟨⟨_,_,rfl,?_,?_,fr1,fr2⟩,by exact zB⟩
        · exact zP oY1 oY1 hoff1
        · exact zP oY2 oY2 hoff2
      | true =>
        have E:=Lib.hid (hXe.trans (show fin7 (c2,h2,ok)=(c2,h2,ok) by simp [fin7,hc2,hh2]))
        clear hXe
        go_wp2_with fail
        refine (iChanOk_any c2 ya yb yp yq _ ((K1.out.below (by exact zB)).more (by (try simp) <;> omega)) ((K2.out.below (by exact zB)).more (by (try simp) <;> omega)) L1 L2).mono ?_
        rintro _ w9 ⟨rfl,hbw9⟩
        have hCw9:Below w.heap.size w w9:=bT (by exact zB) hbw9
        have hKw9:Below w8.heap.size w8 w9:=bT (by exact zB) hbw9
        have hsw9:=hbw9.size;(try (simp at hsw9));have zz:=hQ hbw9 (b:=gc);(first|(simp [go_sem,z_gc,l_gc] at zz)|(simp [go_sem] at zz));(try clear x_gc f_gc);(try clear z_gc);have z_gc:=zz;clear zz;(try clear l_gc);obtain ⟨x_gc,f_gc,l_gc⟩:=bO z_gc;have zz:=hQ hbw9 (b:=gh);(first|(simp [go_sem,z_gh,l_gh] at zz)|(simp [go_sem] at zz));(try clear x_gh f_gh);(try clear z_gh);have z_gh:=zz;clear zz;(try clear l_gh);obtain ⟨x_gh,f_gh,l_gh⟩:=bO z_gh;have zz:=hQ hbw9 (b:=w.heap.size+1+1);(first|(simp [go_sem,z_wpp,l_wpp] at zz)|(simp [go_sem] at zz));(try clear x_wpp f_wpp);(try clear z_wpp);have z_wpp:=zz;clear zz;(try clear l_wpp);obtain ⟨x_wpp,f_wpp,l_wpp⟩:=bO z_wpp;have zz:=hQ hbw9 (b:=w.heap.size+1+1+1);(first|(simp [go_sem,z_wppp,l_wppp] at zz)|(simp [go_sem] at zz));(try clear x_wppp f_wppp);(try clear z_wppp);have z_wppp:=zz;clear zz;(try clear l_wppp);obtain ⟨x_wppp,f_wppp,l_wppp⟩:=bO z_wppp
        rw [hc2]
        go_wp2_with fail
        refine (handOk_any h2 _).mono ?_
        rintro _ w10 ⟨rfl,hbw10⟩
        have hCw10:Below w.heap.size w w10:=bT (by exact zB) hbw10
        have hKw10:Below w8.heap.size w8 w10:=bT (by exact zB) hbw10
        have hsw10:=hbw10.size;(try (simp at hsw10));have zz:=hQ hbw10 (b:=gc);(first|(simp [go_sem,z_gc,l_gc] at zz)|(simp [go_sem] at zz));(try clear x_gc f_gc);(try clear z_gc);have z_gc:=zz;clear zz;(try clear l_gc);obtain ⟨x_gc,f_gc,l_gc⟩:=bO z_gc;have zz:=hQ hbw10 (b:=gh);(first|(simp [go_sem,z_gh,l_gh] at zz)|(simp [go_sem] at zz));(try clear x_gh f_gh);(try clear z_gh);have z_gh:=zz;clear zz;(try clear l_gh);obtain ⟨x_gh,f_gh,l_gh⟩:=bO z_gh;have zz:=hQ hbw10 (b:=w.heap.size+1+1);(first|(simp [go_sem,z_wpp,l_wpp] at zz)|(simp [go_sem] at zz));(try clear x_wpp f_wpp);(try clear z_wpp);have z_wpp:=zz;clear zz;(try clear l_wpp);obtain ⟨x_wpp,f_wpp,l_wpp⟩:=bO z_wpp;have zz:=hQ hbw10 (b:=w.heap.size+1+1+1);(first|(simp [go_sem,z_wppp,l_wppp] at zz)|(simp [go_sem] at zz));(try clear x_wppp f_wppp);(try clear z_wppp);have z_wppp:=zz;clear zz;(try clear l_wppp);obtain ⟨x_wppp,f_wppp,l_wppp⟩:=bO z_wppp
        rw [hh2]
        have r1:=own_below oX1 hKw10
        have r2:=own_below oX2 hKw10
        go_wp2_with fail
        go_region
        go_wp2
        refine bodyPost_ret (res_cct Tryz.results21 rfl (ldChan c2 (.slice ya c2.cells.length yp) (.slice yb c2.words.length yq) (by simp [go_sem, *])) rfl (ldHand h2 (by simp [go_sem, *]))) rfl ⟨⟨.slice ya c2.cells.length yp,.slice yb c2.words.length yq,by rw [E.out];rfl,?_,?_,fun j hj=>.inr (by have:=(oX1.lt j hj).1;omega),fun j hj=>.inr (by have:=(oX2.lt j hj).1;omega)⟩,by exact zB⟩
        · rw [E.out]
          refine own_lo (lo:=w.heap.size+1+1+1+1) ?_ (by omega)
          exact zO r1 oX1
        · rw [E.out]
          refine own_lo (lo:=w.heap.size+1+1+1+1) ?_ (by omega)
          exact zO r2 oX2
  · intro l s wx hl hd hn hf0 K hK
    have hf:=Lib.hid hf0
    clear hf0
    go_simp
    refine hK.out (upd s 25 (.func (.func F) #[] #[])) _ _ (by simp [upd_at] <;> rfl) ⟨hf.out.1,fun _=>rfl,fun h=>(hf.out.2.2.1 h),fun h=>(hf.out.2.2.2.1 h),fun h=>(hf.out.2.2.2.2.1 h),fun h=>absurd h (by rw [show upd l 0 true 4=l 4 from rfl,hn 4 rfl];exact Bool.false_ne_true),fun h=>absurd h (by rw [show upd l 0 true 5=l 5 from rfl,hn 5 rfl];exact Bool.false_ne_true),fun h=>absurd h (by rw [show upd l 0 true 6=l 6 from rfl,hn 6 rfl];exact Bool.false_ne_true),fun h=>absurd h (by rw [show upd l 0 true 7=l 7 from rfl,hn 7 rfl];exact Bool.false_ne_true),fun h=>absurd h (by rw [show upd l 0 true 8=l 8 from rfl,hn 8 rfl];exact Bool.false_ne_true),fun h=>(hf.out.2.2.2.2.2.2.2.2.2.2.1 h),fun h=>(hf.out.2.2.2.2.2.2.2.2.2.2.2.1 h),fun h=>absurd h (by rw [show upd l 0 true 13=l 13 from rfl,hn 13 rfl];exact Bool.false_ne_true)⟩
  · intro l s wx hl hd hn hf0 K hK
    have hf:=Lib.hid hf0
    clear hf0
    have z:=hpS z_w hf.out.1
    go_simp
    refine hK.out (upd s 26 (.agg (cvals c (.slice a c.cells.length p) (.slice b c.words.length q)))) _ _ (by simp [upd_at] <;> rfl) ⟨hf.out.1,fun h=>(hf.out.2.1 h),fun _=>rfl,fun h=>absurd h (by rw [show upd l 1 true 2=l 2 from rfl,hn 2 rfl];exact Bool.false_ne_true),fun h=>(hf.out.2.2.2.2.1 h),fun h=>absurd h (by rw [show upd l 1 true 4=l 4 from rfl,hn 4 rfl];exact Bool.false_ne_true),fun h=>absurd h (by rw [show upd l 1 true 5=l 5 from rfl,hn 5 rfl];exact Bool.false_ne_true),fun h=>absurd h (by rw [show upd l 1 true 6=l 6 from rfl,hn 6 rfl];exact Bool.false_ne_true),fun h=>absurd h (by rw [show upd l 1 true 7=l 7 from rfl,hn 7 rfl];exact Bool.false_ne_true),fun h=>absurd h (by rw [show upd l 1 true 8=l 8 from rfl,hn 8 rfl];exact Bool.false_ne_true),fun h=>(hf.out.2.2.2.2.2.2.2.2.2.2.1 h),fun h=>(hf.out.2.2.2.2.2.2.2.2.2.2.2.1 h),fun h=>absurd h (by rw [show upd l 1 true 13=l 13 from rfl,hn 13 rfl];exact Bool.false_ne_true)⟩
  · intro l s wx hl hd hn hf0 K hK
    have hf:=Lib.hid hf0
    clear hf0
    have e1:=(hf.out.2.2.1 (hd 1 rfl))
    go_simp
    go_at_call 56
    refine (iCopied_any c a b p q _ ((H1.out.below (bT hCw2 hf.out.1)).more (Below.size (bT hCw2 hf.out.1))) Z1.out ((H2.out.below (bT hCw2 hf.out.1)).more (Below.size (bT hCw2 hf.out.1))) Z2.out m1 m2).mono ?_
    rintro _ wy ⟨⟨v1,v2,rfl,X1,X2⟩,hE⟩
    refine hK.out (upd (upd (upd s 1001 (v1)) 1002 (v2)) 27 (.agg (cvals c v1 v2))) _ _ (by simp [upd_at,e1] <;> rfl) ⟨bT hf.out.1 hE,fun h=>(hf.out.2.1 h),fun h=>(hf.out.2.2.1 h),fun _ _=>⟨rfl,own_lo X1 (Below.size hf.out.1),own_lo X2 (Below.size hf.out.1)⟩,fun h=>(hf.out.2.2.2.2.1 h),fun h=>absurd h (by rw [show upd l 2 true 4=l 4 from rfl,hn 4 rfl];exact Bool.false_ne_true),fun h=>absurd h (by rw [show upd l 2 true 5=l 5 from rfl,hn 5 rfl];exact Bool.false_ne_true),fun h=>absurd h (by rw [show upd l 2 true 6=l 6 from rfl,hn 6 rfl];exact Bool.false_ne_true),fun h=>absurd h (by rw [show upd l 2 true 7=l 7 from rfl,hn 7 rfl];exact Bool.false_ne_true),fun h=>absurd h (by rw [show upd l 2 true 8=l 8 from rfl,hn 8 rfl];exact Bool.false_ne_true),fun h=>IsBox.below (hf.out.2.2.2.2.2.2.2.2.2.2.1 h) hE,fun h=>IsBox.below (hf.out.2.2.2.2.2.2.2.2.2.2.2.1 h) hE,fun h=>absurd h (by rw [show upd l 2 true 13=l 13 from rfl,hn 13 rfl];exact Bool.false_ne_true)⟩
  · intro l s wx hl hd hn hf0 K hK
    have hf:=Lib.hid hf0
    clear hf0
    have z:=hpS z_wp hf.out.1
    go_simp
    refine hK.out (upd s 28 (.agg (hvals h))) _ _ (by simp [upd_at] <;> rfl) ⟨hf.out.1,fun h=>(hf.out.2.1 h),fun h=>(hf.out.2.2.1 h),fun h=>(hf.out.2.2.2.1 h),fun _=>rfl,fun h=>absurd h (by rw [show upd l 3 true 4=l 4 from rfl,hn 4 rfl];exact Bool.false_ne_true),fun h=>absurd h (by rw [show upd l 3 true 5=l 5 from rfl,hn 5 rfl];exact Bool.false_ne_true),fun h=>absurd h (by rw [show upd l 3 true 6=l 6 from rfl,hn 6 rfl];exact Bool.false_ne_true),fun h=>absurd h (by rw [show upd l 3 true 7=l 7 from rfl,hn 7 rfl];exact Bool.false_ne_true),fun h=>absurd h (by rw [show upd l 3 true 8=l 8 from rfl,hn 8 rfl];exact Bool.false_ne_true),fun h=>(hf.out.2.2.2.2.2.2.2.2.2.2.1 h),fun h=>(hf.out.2.2.2.2.2.2.2.2.2.2.2.1 h),fun h=>absurd h (by rw [show upd l 3 true 13=l 13 from rfl,hn 13 rfl];exact Bool.false_ne_true)⟩
  · intro l s wx hl hd hn hf0 K hK
    have hf:=Lib.hid hf0
    clear hf0
    have e0:=(hf.out.2.1 (hd 0 rfl))
    have e3:=(hf.out.2.2.2.2.1 (hd 3 rfl))
    obtain ⟨e2,o1,o2⟩:=(hf.out.2.2.2.1 (hd 2 rfl)) hl
    go_simp
    refine (HFF.out _ _ w2.heap.size _ o1 o2 (Below.size hf.out.1)).mono ?_
    rintro _ wy ⟨⟨y1,y2,rfl,X1,X2,_,_⟩,hO⟩
    refine hK.out (upd (upd (upd s 1003 (y1)) 1004 (y2)) 29 (.tuple #[.agg (cvals x.1 y1 y2),.agg (hvals x.2.1),.bool x.2.2])) _ _ (by simp [upd_at,e0,e3,e2] <;> rfl) ⟨bOnl hf.out.1 hO (fun j hj=>(o1.lt j hj).1) (fun j hj=>(o2.lt j hj).1),fun h=>(hf.out.2.1 h),fun h=>(hf.out.2.2.1 h),fun _ h4=>absurd h4 (by rw [show upd l 4 true 4=true from rfl];decide),fun h=>(hf.out.2.2.2.2.1 h),fun _=>⟨rfl,X1,X2⟩,fun h=>absurd h (by rw [show upd l 4 true 5=l 5 from rfl,hn 5 rfl];exact Bool.false_ne_true),fun h=>absurd h (by rw [show upd l 4 true 6=l 6 from rfl,hn 6 rfl];exact Bool.false_ne_true),fun h=>absurd h (by rw [show upd l 4 true 7=l 7 from rfl,hn 7 rfl];exact Bool.false_ne_true),fun h=>absurd h (by rw [show upd l 4 true 8=l 8 from rfl,hn 8 rfl];exact Bool.false_ne_true),fun h=>by (have ee:l 11=false:=hn 11 rfl);(have F:=hf.out.2.2.2.2.2.2.2.2.2.2.1 h);rw [ee] at F;rw [show upd l 4 true 11=false from ee];exact F.onl hO o1 o2 (by decide) (by decide),fun h=>by (have ee:l 12=false:=hn 12 rfl);(have F:=hf.out.2.2.2.2.2.2.2.2.2.2.2.1 h);rw [ee] at F;rw [show upd l 4 true 12=false from ee];exact F.onl hO o1 o2 (by decide) (by decide),fun h=>absurd h (by rw [show upd l 4 true 13=l 13 from rfl,hn 13 rfl];exact Bool.false_ne_true)⟩
  · intro l s wx hl hd hn hf0 K hK
    have hf:=Lib.hid hf0
    clear hf0
    have e4:=(hf.out.2.2.2.2.2.1 (hd 4 rfl)).1
    go_simp
    refine hK.out (upd s 24 (.tuple #[.agg (cvals x.1 (s 1003) (s 1004)),.agg (hvals x.2.1),.bool x.2.2])) _ _ (by simp [upd_at,e4] <;> rfl) ⟨hf.out.1,fun h=>(hf.out.2.1 h),fun h=>(hf.out.2.2.1 h),fun h=>(hf.out.2.2.2.1 h),fun h=>(hf.out.2.2.2.2.1 h),fun h=>(hf.out.2.2.2.2.2.1 h),fun _=>rfl,fun h=>absurd h (by rw [show upd l 5 true 6=l 6 from rfl,hn 6 rfl];exact Bool.false_ne_true),fun h=>absurd h (by rw [show upd l 5 true 7=l 7 from rfl,hn 7 rfl];exact Bool.false_ne_true),fun h=>absurd h (by rw [show upd l 5 true 8=l 8 from rfl,hn 8 rfl];exact Bool.false_ne_true),fun h=>(hf.out.2.2.2.2.2.2.2.2.2.2.1 h),fun h=>(hf.out.2.2.2.2.2.2.2.2.2.2.2.1 h),fun h=>absurd h (by rw [show upd l 5 true 13=l 13 from rfl,hn 13 rfl];exact Bool.false_ne_true)⟩
  · intro l s wx hl hd hn hf0 K hK
    have hf:=Lib.hid hf0
    clear hf0
    have e5:=(hf.out.2.2.2.2.2.2.1 (hd 5 rfl))
    go_simp
    refine hK.out (upd s 30 (.agg (cvals x.1 (s 1003) (s 1004)))) _ _ (by simp [upd_at,e5] <;> rfl) ⟨hf.out.1,fun h=>(hf.out.2.1 h),fun h=>(hf.out.2.2.1 h),fun h=>(hf.out.2.2.2.1 h),fun h=>(hf.out.2.2.2.2.1 h),fun h=>(hf.out.2.2.2.2.2.1 h),fun h=>(hf.out.2.2.2.2.2.2.1 h),fun _=>rfl,fun h=>(hf.out.2.2.2.2.2.2.2.2.1 h),fun h=>(hf.out.2.2.2.2.2.2.2.2.2.1 h),fun h=>(hf.out.2.2.2.2.2.2.2.2.2.2.1 h),fun h=>(hf.out.2.2.2.2.2.2.2.2.2.2.2.1 h),fun h=>(hf.out.2.2.2.2.2.2.2.2.2.2.2.2 h)⟩
  · intro l s wx hl hd hn hf0 K hK
    have hf:=Lib.hid hf0
    clear hf0
    have e5:=(hf.out.2.2.2.2.2.2.1 (hd 5 rfl))
    go_simp
    refine hK.out (upd s 31 (.agg (hvals x.2.1))) _ _ (by simp [upd_at,e5] <;> rfl) ⟨hf.out.1,fun h=>(hf.out.2.1 h),fun h=>(hf.out.2.2.1 h),fun h=>(hf.out.2.2.2.1 h),fun h=>(hf.out.2.2.2.2.1 h),fun h=>(hf.out.2.2.2.2.2.1 h),fun h=>(hf.out.2.2.2.2.2.2.1 h),fun h=>(hf.out.2.2.2.2.2.2.2.1 h),fun _=>rfl,fun h=>(hf.out.2.2.2.2.2.2.2.2.2.1 h),fun h=>(hf.out.2.2.2.2.2.2.2.2.2.2.1 h),fun h=>(hf.out.2.2.2.2.2.2.2.2.2.2.2.1 h),fun h=>(hf.out.2.2.2.2.2.2.2.2.2.2.2.2 h)⟩
  · intro l s wx hl hd hn hf0 K hK
    have hf:=Lib.hid hf0
    clear hf0
    have e5:=(hf.out.2.2.2.2.2.2.1 (hd 5 rfl))
    go_simp
    refine hK.out (upd s 32 (.bool x.2.2)) _ _ (by simp [upd_at,e5] <;> rfl) ⟨hf.out.1,fun h=>(hf.out.2.1 h),fun h=>(hf.out.2.2.1 h),fun h=>(hf.out.2.2.2.1 h),fun h=>(hf.out.2.2.2.2.1 h),fun h=>(hf.out.2.2.2.2.2.1 h),fun h=>(hf.out.2.2.2.2.2.2.1 h),fun h=>(hf.out.2.2.2.2.2.2.2.1 h),fun h=>(hf.out.2.2.2.2.2.2.2.2.1 h),fun _=>rfl,fun h=>(hf.out.2.2.2.2.2.2.2.2.2.2.1 h),fun h=>(hf.out.2.2.2.2.2.2.2.2.2.2.2.1 h),fun h=>absurd h (by rw [show upd l 8 true 13=l 13 from rfl,hn 13 rfl];exact Bool.false_ne_true)⟩
  · intro l s wx hl hd hn hf0 K hK
    have hf:=Lib.hid hf0
    clear hf0
    go_simp
    refine hK.out (upd s 9 (.pointer (some ⟨wx.heap.size,0,none⟩))) _ _ (by simp [upd_at] <;> rfl) ⟨bT hf.out.1 (belowAlloc _ _),fun h=>(hf.out.2.1 h),fun h=>(hf.out.2.2.1 h),fun h=>fun h4=>(let ⟨e,X1,X2⟩:=(hf.out.2.2.2.1 h) h4;⟨e,own_below X1 (belowAlloc _ _),own_below X2 (belowAlloc _ _)⟩),fun h=>(hf.out.2.2.2.2.1 h),fun h=>(let ⟨e,X1,X2⟩:=(hf.out.2.2.2.2.2.1 h);⟨e,own_below X1 (belowAlloc _ _),own_below X2 (belowAlloc _ _)⟩),fun h=>(hf.out.2.2.2.2.2.2.1 h),fun h=>(hf.out.2.2.2.2.2.2.2.1 h),fun h=>(hf.out.2.2.2.2.2.2.2.2.1 h),fun h=>(hf.out.2.2.2.2.2.2.2.2.2.1 h),fun _=>by rw [show upd l 9 true 11=false from hn 11 rfl];exact IsBox.new (Below.size hf.out.1),fun h=>IsBox.below (hf.out.2.2.2.2.2.2.2.2.2.2.2.1 h) (belowAlloc _ _),fun h=>(hf.out.2.2.2.2.2.2.2.2.2.2.2.2 h)⟩
  · intro l s wx hl hd hn hf0 K hK
    have hf:=Lib.hid hf0
    clear hf0
    go_simp
    refine hK.out (upd s 10 (.pointer (some ⟨wx.heap.size,0,none⟩))) _ _ (by simp [upd_at] <;> rfl) ⟨bT hf.out.1 (belowAlloc _ _),fun h=>(hf.out.2.1 h),fun h=>(hf.out.2.2.1 h),fun h=>fun h4=>(let ⟨e,X1,X2⟩:=(hf.out.2.2.2.1 h) h4;⟨e,own_below X1 (belowAlloc _ _),own_below X2 (belowAlloc _ _)⟩),fun h=>(hf.out.2.2.2.2.1 h),fun h=>(let ⟨e,X1,X2⟩:=(hf.out.2.2.2.2.2.1 h);⟨e,own_below X1 (belowAlloc _ _),own_below X2 (belowAlloc _ _)⟩),fun h=>(hf.out.2.2.2.2.2.2.1 h),fun h=>(hf.out.2.2.2.2.2.2.2.1 h),fun h=>(hf.out.2.2.2.2.2.2.2.2.1 h),fun h=>(hf.out.2.2.2.2.2.2.2.2.2.1 h),fun h=>IsBox.below (hf.out.2.2.2.2.2.2.2.2.2.2.1 h) (belowAlloc _ _),fun _=>by rw [show upd l 10 true 12=false from hn 12 rfl];exact IsBox.new (Below.size hf.out.1),fun h=>(hf.out.2.2.2.2.2.2.2.2.2.2.2.2 h)⟩
  · intro l s wx hl hd hn hf0 K hK
    have hf:=Lib.hid hf0
    clear hf0
    have e6:=(hf.out.2.2.2.2.2.2.2.1 (hd 6 rfl))
    have e4:=(hf.out.2.2.2.2.2.1 (hd 4 rfl))
    have X1:=e4.2.1
    have X2:=e4.2.2
    clear e4
    obtain ⟨bb,eb,hlo,zb⟩:=(hf.out.2.2.2.2.2.2.2.2.2.2.1 (hd 9 rfl))
    rw [hl] at zb
    dsimp only [cond] at zb
    obtain ⟨xa,xp,ea,_⟩:=X1.seg
    obtain ⟨xb,xq,eb2,_⟩:=X2.seg
    rw [ea,eb2] at e6
    have zn:hp (setBox wx bb (cvals x.1 (.slice xa x.1.cells.length xp) (.slice xb x.1.words.length xq))) bb=some (.cells (cvals x.1 (s 1003) (s 1004)) 27):=by rw [ea,eb2];exact hp_set zb
    go_simp
    refine hK.out (s) _ _ (by simp [upd_at,eb,e6,ea,eb2] <;> rfl) ⟨bBx hf.out.1 hlo,fun h=>(hf.out.2.1 h),fun h=>(hf.out.2.2.1 h),fun _ h4=>absurd ((hd 4 rfl).symm.trans h4) (by decide),fun h=>(hf.out.2.2.2.2.1 h),fun h=>⟨(hf.out.2.2.2.2.2.1 h).1,own_far (hf.out.2.2.2.2.2.1 h).2.1 zb (by decide),own_far (hf.out.2.2.2.2.2.1 h).2.2 zb (by decide)⟩,fun h=>(hf.out.2.2.2.2.2.2.1 h),fun h=>(hf.out.2.2.2.2.2.2.2.1 h),fun h=>(hf.out.2.2.2.2.2.2.2.2.1 h),fun h=>(hf.out.2.2.2.2.2.2.2.2.2.1 h),fun _=>⟨bb,eb,hlo,zn⟩,fun h=>IsBox.far (hf.out.2.2.2.2.2.2.2.2.2.2.2.1 h) zb (by decide),fun h=>(hf.out.2.2.2.2.2.2.2.2.2.2.2.2 h)⟩
  · intro l s wx hl hd hn hf0 K hK
    have hf:=Lib.hid hf0
    clear hf0
    have e7:=(hf.out.2.2.2.2.2.2.2.2.1 (hd 7 rfl))
    have e4:=(hf.out.2.2.2.2.2.1 (hd 4 rfl))
    have X1:=e4.2.1
    have X2:=e4.2.2
    clear e4
    obtain ⟨bb,eb,hlo,zb⟩:=(hf.out.2.2.2.2.2.2.2.2.2.2.2.1 (hd 10 rfl))
    rw [hl] at zb
    dsimp only [cond] at zb
    have zn:hp (setBox wx bb (hvals x.2.1)) bb=some (.cells (hvals x.2.1) 31):=by exact hp_set zb
    go_simp
    refine hK.out (s) _ _ (by simp [upd_at,eb,e7] <;> rfl) ⟨bBx hf.out.1 hlo,fun h=>(hf.out.2.1 h),fun h=>(hf.out.2.2.1 h),fun _ h4=>absurd ((hd 4 rfl).symm.trans h4) (by decide),fun h=>(hf.out.2.2.2.2.1 h),fun h=>⟨(hf.out.2.2.2.2.2.1 h).1,own_far (hf.out.2.2.2.2.2.1 h).2.1 zb (by decide),own_far (hf.out.2.2.2.2.2.1 h).2.2 zb (by decide)⟩,fun h=>(hf.out.2.2.2.2.2.2.1 h),fun h=>(hf.out.2.2.2.2.2.2.2.1 h),fun h=>(hf.out.2.2.2.2.2.2.2.2.1 h),fun h=>(hf.out.2.2.2.2.2.2.2.2.2.1 h),fun h=>IsBox.far (hf.out.2.2.2.2.2.2.2.2.2.2.1 h) zb (by decide),fun _=>⟨bb,eb,hlo,zn⟩,fun h=>(hf.out.2.2.2.2.2.2.2.2.2.2.2.2 h)⟩
  · intro l s wx hl hd hn hf0 K hK
    have hf:=Lib.hid hf0
    clear hf0
    have e8:=(hf.out.2.2.2.2.2.2.2.2.2.1 (hd 8 rfl))
    go_simp
    refine hK.out (upd s 11 (.bool x.2.2)) _ _ (by simp [upd_at,e8] <;> rfl) ⟨hf.out.1,fun h=>(hf.out.2.1 h),fun h=>(hf.out.2.2.1 h),fun h=>(hf.out.2.2.2.1 h),fun h=>(hf.out.2.2.2.2.1 h),fun h=>(hf.out.2.2.2.2.2.1 h),fun h=>(hf.out.2.2.2.2.2.2.1 h),fun h=>(hf.out.2.2.2.2.2.2.2.1 h),fun h=>(hf.out.2.2.2.2.2.2.2.2.1 h),fun h=>(hf.out.2.2.2.2.2.2.2.2.2.1 h),fun h=>(hf.out.2.2.2.2.2.2.2.2.2.2.1 h),fun h=>(hf.out.2.2.2.2.2.2.2.2.2.2.2.1 h),fun _=>rfl⟩
set_option maxRecDepth 100000 in
set_option maxHeartbeats 4000000 in
theorem touched_no1 (F:Nat) (c:Ch) (h:Ha) (a b:Option Addr) (p q:Nat) (w:World) (h1:Seg w w.heap.size a c.cells.length 3 (cellF c.cells)) (z1:a=none→p=0) (h2:Seg w w.heap.size b c.words.length 1 (intF c.words)) (z2:b=none→q=0) (l1:c.cells.length≤maxLen) (l2:c.words.length≤maxLen) (hc:chanOk c=false) :
    Calls Tryz.prog 21 #[.func (.func F) #[] #[],.agg (cvals c (.slice a c.cells.length p) (.slice b c.words.length q)),.agg (hvals h)] w fun r w'=>StepN w w' nothing r:=by
  have H1:=Lib.hid h1
  have H2:=Lib.hid h2
  have T:=Lib.hid fun W=>refused_any W w.heap.size (.slice none 0 0) (.slice none 0 0)
  generalize nothing=x at *
  clear h1 h2 z1 z2
  have d1:∀ j,(Value.slice none 0 0).ownBlock=some j→w.heap.size+1+1+1+1≤j:=fun j hj=>by cases hj
  have d2:=d1
  go_enter Tryz.func21,Tryz.ntmps21
  go_wp2_with fail;refine bHit w (by exact zB) fun bb=>?_;refine (iChanOk_any c a b p q _ ((H1.out.below bb).more bb.size) ((H2.out.below bb).more bb.size) l1 l2).mono ?_;rintro _ w1 ⟨rfl,hbw1⟩;have hCw1:Below w.heap.size w w1:=bT bb hbw1;have hsw1:=hbw1.size;(try simp at hsw1);have zz:=q4 hbw1 (b:=w.heap.size);(try simp [go_sem] at zz);(try clear z_wppp x_wppp f_wppp l_wppp);(try clear z_wpp x_wpp f_wpp l_wpp);(try clear z_wp x_wp f_wp l_wp);(try clear z_w x_w f_w l_w);obtain ⟨z_wppp,z_wpp,z_wp,z_w⟩:=zz;obtain ⟨x_wppp,f_wppp,l_wppp⟩:=bO z_wppp;obtain ⟨x_wpp,f_wpp,l_wpp⟩:=bO z_wpp;obtain ⟨x_wp,f_wp,l_wp⟩:=bO z_wp;obtain ⟨x_w,f_w,l_w⟩:=bO z_w;clear hbw1 bb
  rw [hc]
  go_wp2_with fail;refine bHit w (by exact zB) fun bb=>?_;refine (T.out _).mono ?_;rintro _ w9 ⟨⟨y1,y2,rfl,oY1,oY2,fY1,fY2⟩,hbw9⟩;have hCw9:Below w.heap.size w w9:=bT bb hbw9;have hsw9:=hbw9.size;(try simp at hsw9);have zz:=q4 hbw9 (b:=w.heap.size);(first|simp [go_sem,z_wppp,z_wpp,z_wp,z_w,l_w,l_wp,l_wpp,l_wppp] at zz|simp [go_sem] at zz|skip);(try clear z_wppp x_wppp f_wppp l_wppp);(try clear z_wpp x_wpp f_wpp l_wpp);(try clear z_wp x_wp f_wp l_wp);(try clear z_w x_w f_w l_w);obtain ⟨z_wppp,z_wpp,z_wp,z_w⟩:=zz;obtain ⟨x_wppp,f_wppp,l_wppp⟩:=bO z_wppp;obtain ⟨x_wpp,f_wpp,l_wpp⟩:=bO z_wpp;obtain ⟨x_wp,f_wp,l_wp⟩:=bO z_wp;obtain ⟨x_w,f_w,l_w⟩:=bO z_w;clear hbw9 bb
  have hoff1:∀ j,w.heap.size≤j→j<w.heap.size+1+1+1+1→y1.ownBlock≠some j:=fun j _ h2=>fY1.off2 d1 h2 (by (try simp) <;> omega);have hoff2:∀ j,w.heap.size≤j→j<w.heap.size+1+1+1+1→y2.ownBlock≠some j:=fun j _ h2=>fY2.off2 d2 h2 (by (try simp) <;> omega);have fr1:Fresh w (.slice none 0 0) y1:=fun j hj=>.inr (fY1.up d1 (by (try simp) <;> omega) (by (try simp) <;> omega) j hj);have fr2:Fresh w (.slice none 0 0) y2:=fun j hj=>.inr (fY2.up d2 (by (try simp) <;> omega) (by (try simp) <;> omega) j hj);obtain ⟨ya,yp,rfl,_⟩:=oY1.seg;obtain ⟨yb,yq,rfl,_⟩:=oY2.seg
  go_wp2
  refine bodyPost_ret (res_cct Tryz.results21 rfl (ldChan x.1 (.slice ya x.1.cells.length yp) (.slice yb x.1.words.length yq) (by simp [go_sem, *])) rfl (ldHand x.2.1 (by simp [go_sem, *]))) rfl ⟨⟨_,_,rfl,?_,?_,fr1,fr2⟩,by exact zB⟩
  · exact zP oY1 oY1 hoff1
  · exact zP oY2 oY2 hoff2
set_option maxRecDepth 100000 in
set_option maxHeartbeats 4000000 in
theorem touched_no2 (F:Nat) (c:Ch) (h:Ha) (a b:Option Addr) (p q:Nat) (w:World) (h1:Seg w w.heap.size a c.cells.length 3 (cellF c.cells)) (z1:a=none→p=0) (h2:Seg w w.heap.size b c.words.length 1 (intF c.words)) (z2:b=none→q=0) (l1:c.cells.length≤maxLen) (l2:c.words.length≤maxLen) (hc:chanOk c=true) (hh:handOk h=false) :
    Calls Tryz.prog 21 #[.func (.func F) #[] #[],.agg (cvals c (.slice a c.cells.length p) (.slice b c.words.length q)),.agg (hvals h)] w fun r w'=>StepN w w' nothing r:=by
  have H1:=Lib.hid h1
  have H2:=Lib.hid h2
  have T:=Lib.hid fun W=>refused_any W w.heap.size (.slice none 0 0) (.slice none 0 0)
  generalize nothing=x at *
  clear h1 h2 z1 z2
  have d1:∀ j,(Value.slice none 0 0).ownBlock=some j→w.heap.size+1+1+1+1≤j:=fun j hj=>by cases hj
  have d2:=d1
  go_enter Tryz.func21,Tryz.ntmps21
  go_wp2_with fail;refine bHit w (by exact zB) fun bb=>?_;refine (iChanOk_any c a b p q _ ((H1.out.below bb).more bb.size) ((H2.out.below bb).more bb.size) l1 l2).mono ?_;rintro _ w1 ⟨rfl,hbw1⟩;have hCw1:Below w.heap.size w w1:=bT bb hbw1;have hsw1:=hbw1.size;(try simp at hsw1);have zz:=q4 hbw1 (b:=w.heap.size);(try simp [go_sem] at zz);(try clear z_wppp x_wppp f_wppp l_wppp);(try clear z_wpp x_wpp f_wpp l_wpp);(try clear z_wp x_wp f_wp l_wp);(try clear z_w x_w f_w l_w);obtain ⟨z_wppp,z_wpp,z_wp,z_w⟩:=zz;obtain ⟨x_wppp,f_wppp,l_wppp⟩:=bO z_wppp;obtain ⟨x_wpp,f_wpp,l_wpp⟩:=bO z_wpp;obtain ⟨x_wp,f_wp,l_wp⟩:=bO z_wp;obtain ⟨x_w,f_w,l_w⟩:=bO z_w;clear hbw1 bb
  rw [hc]
  go_wp2_with fail;refine bHit w (by exact zB) fun bb=>?_;refine (handOk_any h _).mono ?_;rintro _ w2 ⟨rfl,hbw2⟩;have hCw2:Below w.heap.size w w2:=bT bb hbw2;have hsw2:=hbw2.size;(try simp at hsw2);have zz:=q4 hbw2 (b:=w.heap.size);(first|simp [go_sem,z_wppp,z_wpp,z_wp,z_w,l_w,l_wp,l_wpp,l_wppp] at zz|simp [go_sem] at zz|skip);(try clear z_wppp x_wppp f_wppp l_wppp);(try clear z_wpp x_wpp f_wpp l_wpp);(try clear z_wp x_wp f_wp l_wp);(try clear z_w x_w f_w l_w);obtain ⟨z_wppp,z_wpp,z_wp,z_w⟩:=zz;obtain ⟨x_wppp,f_wppp,l_wppp⟩:=bO z_wppp;obtain ⟨x_wpp,f_wpp,l_wpp⟩:=bO z_wpp;obtain ⟨x_wp,f_wp,l_wp⟩:=bO z_wp;obtain ⟨x_w,f_w,l_w⟩:=bO z_w;clear hbw2 bb
  rw [hh]
  go_wp2_with fail;refine bHit w (by exact zB) fun bb=>?_;refine (T.out _).mono ?_;rintro _ w9 ⟨⟨y1,y2,rfl,oY1,oY2,fY1,fY2⟩,hbw9⟩;have hCw9:Below w.heap.size w w9:=bT bb hbw9;have hsw9:=hbw9.size;(try simp at hsw9);have zz:=q4 hbw9 (b:=w.heap.size);(first|simp [go_sem,z_wppp,z_wpp,z_wp,z_w,l_w,l_wp,l_wpp,l_wppp] at zz|simp [go_sem] at zz|skip);(try clear z_wppp x_wppp f_wppp l_wppp);(try clear z_wpp x_wpp f_wpp l_wpp);(try clear z_wp x_wp f_wp l_wp);(try clear z_w x_w f_w l_w);obtain ⟨z_wppp,z_wpp,z_wp,z_w⟩:=zz;obtain ⟨x_wppp,f_wppp,l_wppp⟩:=bO z_wppp;obtain ⟨x_wpp,f_wpp,l_wpp⟩:=bO z_wpp;obtain ⟨x_wp,f_wp,l_wp⟩:=bO z_wp;obtain ⟨x_w,f_w,l_w⟩:=bO z_w;clear hbw9 bb
  have hoff1:∀ j,w.heap.size≤j→j<w.heap.size+1+1+1+1→y1.ownBlock≠some j:=fun j _ h2=>fY1.off2 d1 h2 (by (try simp) <;> omega);have hoff2:∀ j,w.heap.size≤j→j<w.heap.size+1+1+1+1→y2.ownBlock≠some j:=fun j _ h2=>fY2.off2 d2 h2 (by (try simp) <;> omega);have fr1:Fresh w (.slice none 0 0) y1:=fun j hj=>.inr (fY1.up d1 (by (try simp) <;> omega) (by (try simp) <;> omega) j hj);have fr2:Fresh w (.slice none 0 0) y2:=fun j hj=>.inr (fY2.up d2 (by (try simp) <;> omega) (by (try simp) <;> omega) j hj);obtain ⟨ya,yp,rfl,_⟩:=oY1.seg;obtain ⟨yb,yq,rfl,_⟩:=oY2.seg
  go_wp2
  refine bodyPost_ret (res_cct Tryz.results21 rfl (ldChan x.1 (.slice ya x.1.cells.length yp) (.slice yb x.1.words.length yq) (by simp [go_sem, *])) rfl (ldHand x.2.1 (by simp [go_sem, *]))) rfl ⟨⟨_,_,rfl,?_,?_,fr1,fr2⟩,by exact zB⟩
  · exact zP oY1 oY1 hoff1
  · exact zP oY2 oY2 hoff2
end Go.Proofs.YtkiingmgpobgnaaGreat
set_option linter.unusedSimpArgs false
set_option linter.unusedVariables false
namespace Go.Proofs.YtkiingmgpobgnaaGreat
open Go.RowKit
set_option linter.unusedSimpArgs false
attribute [local simp] bx_size
attribute [local go_sem ↓] zeroHand zeroChan toLHand toLChan toVHand toVChan storeHand storeChan storeHandC storeChanC
def heardH (h:Ha) (x:Int):Ha:=if x == 0 then h else if x == 2 then { h with pos:=25 } else if h.code == 1 then resting 1 0 else { h with pos:=24 }
theorem pWord_any (c:Ch) (v:Int) (v1 v2:Value) (lo:Nat) (w:World) (h1:OCells w lo v1 c.cells) (h2:OInts w lo v2 c.words) (hc:chanOk c=true) :
    Calls Tryz.prog 16 #[.agg (cvals c v1 v2),.int .i64 v] w fun r w'=>r=.returned (.int .i64 (wordOf c v))∧Below w.heap.size w w':=by
  obtain ⟨n1,n2⟩:=chan_len hc
  obtain ⟨a,p,rfl,g1⟩:=h1.seg
  obtain ⟨b,q,rfl,g2⟩:=h2.seg
  exact wordOf_any c v a b p q w g1 g2 (by unfold maxLen;omega) (by unfold maxLen;omega)
set_option maxRecDepth 100000 in
set_option maxHeartbeats 2000000 in
theorem ownWord_yes (c:Ch) (h:Ha) (v1 v2:Value) (lo:Nat) (w:World) (h1:OCells w lo v1 c.cells) (h2:OInts w lo v2 c.words) (hc:chanOk c=true) (x:Int) (hx:wordOf c h.mine=x) (hp:¬ x<0) :
    Calls Tryz.prog 72 #[.agg (cvals c v1 v2),.agg (hvals h)] w fun r w'=>r=.returned (.int .i64 x)∧Below w.heap.size w w':=by
  have WO:=Lib.hid fun W a b=>pWord_any c h.mine v1 v2 lo W a b hc
  rw [hx] at WO
  clear hx
  have b1:=fun j (hj:v1.ownBlock=some j)=>(h1.lt j hj).2
  have b2:=fun j (hj:v2.ownBlock=some j)=>(h2.lt j hj).2
  obtain ⟨a1,q1,rfl,_⟩:=h1.seg
  obtain ⟨a2,q2,rfl,_⟩:=h2.seg
  have O1:=Lib.hid h1
  have O2:=Lib.hid h2
  clear h1 h2
  have o1:=O1.out
  have o2:=O2.out
  go_enter Tryz.func72,Tryz.ntmps72
  go_wp2_with fail;refine bHit w (by exact zB) fun bb=>?_;refine (WO.out _ (by exact zO o1 o1) (by exact zO o2 o2)).mono ?_;rintro _ w1 ⟨rfl,hbw1⟩;have hCw1:Below w.heap.size w w1:=bT bb hbw1;have hsw1:=hbw1.size;(try simp at hsw1);have zz:=And.intro (hQ hbw1 (b:=w.heap.size+1)) <| hQ hbw1 (b:=w.heap.size);(try simp [go_sem] at zz);(try clear z_wp x_wp f_wp l_wp);(try clear z_w x_w f_w l_w);obtain ⟨z_wp,z_w⟩:=zz;obtain ⟨x_wp,f_wp,l_wp⟩:=bO z_wp;obtain ⟨x_w,f_w,l_w⟩:=bO z_w;clear hbw1 bb
  go_wp2
  go_ret
  exact ⟨rfl,by exact zB⟩
set_option maxRecDepth 100000 in
set_option maxHeartbeats 2000000 in
theorem ownWord_no (c:Ch) (h:Ha) (v1 v2:Value) (lo:Nat) (w:World) (h1:OCells w lo v1 c.cells) (h2:OInts w lo v2 c.words) (hc:chanOk c=true) (hx:wordOf c h.mine=-1) :
    Calls Tryz.prog 72 #[.agg (cvals c v1 v2),.agg (hvals h)] w fun e W'=>∃ T s,e=.panicked [{ v:=.iface T s,recovered:=false }]∧Below w.heap.size w W':=by
  have WO:=Lib.hid fun W a b=>pWord_any c h.mine v1 v2 lo W a b hc
  rw [hx] at WO
  clear hx
  have b1:=fun j (hj:v1.ownBlock=some j)=>(h1.lt j hj).2
  have b2:=fun j (hj:v2.ownBlock=some j)=>(h2.lt j hj).2
  obtain ⟨a1,q1,rfl,_⟩:=h1.seg
  obtain ⟨a2,q2,rfl,_⟩:=h2.seg
  have O1:=Lib.hid h1
  have O2:=Lib.hid h2
  clear h1 h2
  have o1:=O1.out
  have o2:=O2.out
  go_enter Tryz.func72,Tryz.ntmps72
  go_wp2_with fail;refine bHit w (by exact zB) fun bb=>?_;refine (WO.out _ (by exact zO o1 o1) (by exact zO o2 o2)).mono ?_;rintro _ w1 ⟨rfl,hbw1⟩;have hCw1:Below w.heap.size w w1:=bT bb hbw1;have hsw1:=hbw1.size;(try simp at hsw1);have zz:=And.intro (hQ hbw1 (b:=w.heap.size+1)) <| hQ hbw1 (b:=w.heap.size);(try simp [go_sem] at zz);(try clear z_wp x_wp f_wp l_wp);(try clear z_w x_w f_w l_w);obtain ⟨z_wp,z_w⟩:=zz;obtain ⟨x_wp,f_wp,l_wp⟩:=bO z_wp;obtain ⟨x_w,f_w,l_w⟩:=bO z_w;clear hbw1 bb
  go_wp2
  exact ⟨rfl,_,_,rfl,by exact zB⟩
theorem goneOf_any (k e:Int) (w:World):Calls Tryz.prog 75 #[.agg #[.int .i64 k,.int .i64 e]] w fun r w'=>r=.returned (.int .i64 (if k == 1 then 9 else 10))∧Below w.heap.size w w':=by
  go_enter Tryz.func75,Tryz.ntmps75
  go_wp2
  all_goals go_ret
  all_goals exact ⟨ret_i64 (by simp_all),by exact zB⟩
set_option maxRecDepth 100000 in
set_option maxHeartbeats 2000000 in
theorem heard_0 (h:Ha) (x:Int) (w:World) (hx:x=0):Calls Tryz.prog 73 #[.agg (hvals h),.int .i64 x] w fun r w'=>r=.returned (.agg (hvals h))∧Below w.heap.size w w':=by
  go_enter Tryz.func73,Tryz.ntmps73
  subst hx
  go_wp2
  exact bodyPost_ret (res_c Tryz.results73 rfl (ldHand h (by simp [go_sem, *] <;> rfl))) rfl ⟨rfl,by exact zB⟩
set_option maxRecDepth 100000 in
set_option maxHeartbeats 2000000 in
theorem heard_2 (h:Ha) (x:Int) (w:World) (hx:x=2):Calls Tryz.prog 73 #[.agg (hvals h),.int .i64 x] w fun r w'=>r=.returned (.agg (hvals { h with pos:=25 }))∧Below w.heap.size w w':=by
  go_enter Tryz.func73,Tryz.ntmps73
  subst hx
  go_wp2_with fail;refine bHit w (by exact zB) fun bb=>?_;refine (moved_any _ _ _).mono ?_;rintro _ w1 ⟨rfl,hbw1⟩;have hCw1:Below w.heap.size w w1:=bT bb hbw1;have hsw1:=hbw1.size;(try simp at hsw1);have zz:=And.intro (hQ hbw1 (b:=w.heap.size+1)) <| hQ hbw1 (b:=w.heap.size);(try simp [go_sem] at zz);(try clear z_wp x_wp f_wp l_wp);(try clear z_w x_w f_w l_w);obtain ⟨z_wp,z_w⟩:=zz;obtain ⟨x_wp,f_wp,l_wp⟩:=bO z_wp;obtain ⟨x_w,f_w,l_w⟩:=bO z_w;clear hbw1 bb
  go_wp2
  exact bodyPost_ret (res_c Tryz.results73 rfl (ldHand { h with pos:=25 } (by simp [go_sem, *] <;> rfl))) rfl ⟨rfl,by exact zB⟩
set_option maxRecDepth 100000 in
set_option maxHeartbeats 2000000 in
theorem heard_s (h:Ha) (x:Int) (w:World) (h0:(x == 0)=false) (h2:(x == 2)=false) (hk:(h.code == 1)=true):Calls Tryz.prog 73 #[.agg (hvals h),.int .i64 x] w fun r w'=>r=.returned (.agg (hvals (resting 1 0)))∧Below w.heap.size w w':=by
  go_enter Tryz.func73,Tryz.ntmps73
  go_wp2_with fail;refine bHit w (by exact zB) fun bb=>?_;refine (resting_any _ _ _).mono ?_;rintro _ w1 ⟨rfl,hbw1⟩;have hCw1:Below w.heap.size w w1:=bT bb hbw1;have hsw1:=hbw1.size;(try simp at hsw1);have zz:=And.intro (hQ hbw1 (b:=w.heap.size+1)) <| hQ hbw1 (b:=w.heap.size);(try simp [go_sem] at zz);(try clear z_wp x_wp f_wp l_wp);(try clear z_w x_w f_w l_w);obtain ⟨z_wp,z_w⟩:=zz;obtain ⟨x_wp,f_wp,l_wp⟩:=bO z_wp;obtain ⟨x_w,f_w,l_w⟩:=bO z_w;clear hbw1 bb
  go_wp2
  exact bodyPost_ret (res_c Tryz.results73 rfl (ldHand (resting 1 0) (by simp [go_sem, *] <;> rfl))) rfl ⟨rfl,by exact zB⟩
set_option maxRecDepth 100000 in
set_option maxHeartbeats 2000000 in
theorem heard_r (h:Ha) (x:Int) (w:World) (h0:(x == 0)=false) (h2:(x == 2)=false) (hk:(h.code == 1)=false):Calls Tryz.prog 73 #[.agg (hvals h),.int .i64 x] w fun r w'=>r=.returned (.agg (hvals { h with pos:=24 }))∧Below w.heap.size w w':=by
  go_enter Tryz.func73,Tryz.ntmps73
  go_wp2_with fail;refine bHit w (by exact zB) fun bb=>?_;refine (moved_any _ _ _).mono ?_;rintro _ w1 ⟨rfl,hbw1⟩;have hCw1:Below w.heap.size w w1:=bT bb hbw1;have hsw1:=hbw1.size;(try simp at hsw1);have zz:=And.intro (hQ hbw1 (b:=w.heap.size+1)) <| hQ hbw1 (b:=w.heap.size);(try simp [go_sem] at zz);(try clear z_wp x_wp f_wp l_wp);(try clear z_w x_w f_w l_w);obtain ⟨z_wp,z_w⟩:=zz;obtain ⟨x_wp,f_wp,l_wp⟩:=bO z_wp;obtain ⟨x_w,f_w,l_w⟩:=bO z_w;clear hbw1 bb
  go_wp2
  exact bodyPost_ret (res_c Tryz.results73 rfl (ldHand { h with pos:=24 } (by simp [go_sem, *] <;> rfl))) rfl ⟨rfl,by exact zB⟩
theorem heard_any (h:Ha) (x:Int) (w:World):Calls Tryz.prog 73 #[.agg (hvals h),.int .i64 x] w fun r w'=>r=.returned (.agg (hvals (heardH h x)))∧Below w.heap.size w w':=by
  by_cases h0:x=0
  · rw [show heardH h x=h by simp [heardH,h0]]
    exact heard_0 h x w h0
  by_cases h2:x=2
  · rw [show heardH h x={ h with pos:=25 } by simp [heardH,h2]]
    exact heard_2 h x w h2
  have e0:(x == 0)=false:=by simpa using h0
  have e2:(x == 2)=false:=by simpa using h2
  cases hk:(h.code == 1) with
  | true =>
    rw [show heardH h x=resting 1 0 by simp only [heardH,e0,e2,hk];rfl]
    exact heard_s h x w e0 e2 hk
  | false =>
    rw [show heardH h x={ h with pos:=24 } by simp only [heardH,e0,e2,hk];rfl]
    exact heard_r h x w e0 e2 hk
set_option maxRecDepth 100000 in
set_option maxHeartbeats 2000000 in
theorem fetched_no (c:Ch) (h:Ha) (v1 v2:Value) (lo:Nat) (w:World) (h1:OCells w lo v1 c.cells) (h2:OInts w lo v2 c.words) (hk:(h.code != 2)=true) :
    Calls Tryz.prog 74 #[.agg (cvals c v1 v2),.agg (hvals h)] w fun e W'=>∃ T s,e=.panicked [{ v:=.iface T s,recovered:=false }]∧Below w.heap.size w W':=by
  have b1:=fun j (hj:v1.ownBlock=some j)=>(h1.lt j hj).2
  have b2:=fun j (hj:v2.ownBlock=some j)=>(h2.lt j hj).2
  obtain ⟨a1,q1,rfl,_⟩:=h1.seg
  obtain ⟨a2,q2,rfl,_⟩:=h2.seg
  have O1:=Lib.hid h1
  have O2:=Lib.hid h2
  clear h1 h2
  have o1:=O1.out
  have o2:=O2.out
  go_enter Tryz.func74,Tryz.ntmps74
  go_wp2
  exact ⟨rfl,_,_,rfl,by exact zB⟩
set_option maxRecDepth 100000 in
set_option maxHeartbeats 2000000 in
theorem fetched_yes (c:Ch) (h:Ha) (v1 v2:Value) (lo:Nat) (w:World) (h1:OCells w lo v1 c.cells) (h2:OInts w lo v2 c.words) (hc0:0≤h.cell) (hc1:h.cell<c.cells.length) (hk:(h.code != 2)=false) :
    Calls Tryz.prog 74 #[.agg (cvals c v1 v2),.agg (hvals h)] w fun r w'=>r=.returned (.agg (hvals (resting 2 (cellAt c h.cell).e)))∧Below w.heap.size w w':=by
  obtain ⟨i,hci⟩:∃ i:Nat,h.cell=(i:Int):=⟨h.cell.toNat,by omega⟩
  have hi:i<c.cells.length:=by omega
  have hi0:(0:Int)≤(i:Int):=by omega
  have hi1:(i:Int)<(c.cells.length:Int):=by omega
  have hne:=h1.ne h2
  obtain ⟨a2,q2,rfl,_⟩:=h2.seg
  obtain ⟨g,q1,rfl,hlo1,hlt,hcell,hfr⟩:=h1.open1 hi
  have O1:=Lib.hid h1
  have O2:=Lib.hid h2
  have lg0:g<w.heap.size+1:=by omega
  have lg1:g<w.heap.size+1+1:=by omega
  have lg2:g<w.heap.size+1+1+1:=by omega
  have ng0:g≠w.heap.size:=by omega
  have ng1:g≠w.heap.size+1:=by omega
  have ng2:g≠w.heap.size+1+1:=by omega
  have ng3:g≠w.heap.size+1+1+1:=by omega
  have mg0:w.heap.size≠g:=by omega
  have mg1:w.heap.size+1≠g:=by omega
  have mg2:w.heap.size+1+1≠g:=by omega
  have mg3:w.heap.size+1+1+1≠g:=by omega
  have hx:Hid (cellAt c h.cell=c.cells.getD i ⟨0,0,0⟩):=by simp [cellAt,Hid,hci]
  have c0:=hcell 0 (by omega)
  have c1:=hcell 1 (by omega)
  have c2:=hcell 2 (by omega)
  simp only [C3.val,Nat.add_zero] at c0 c1 c2
  have ex:=hx.out
  rw [ex]
  generalize c.cells.getD i ⟨0,0,0⟩=x at *
  obtain ⟨s,e,t⟩:=x
  simp only at c0 c1 c2 ⊢
  clear hx ex hcell h1 h2
  go_enter Tryz.func74,Tryz.ntmps74
  go_wp2_with fail;refine bHit w (by exact zB) fun bb=>?_;refine (resting_any _ _ _).mono ?_;rintro _ w1 ⟨rfl,hbw1⟩;have hCw1:Below w.heap.size w w1:=bT bb hbw1;have hsw1:=hbw1.size;(try simp at hsw1);have zz:=And.intro (hQ hbw1 (b:=w.heap.size+1+1)) <| And.intro (hQ hbw1 (b:=w.heap.size+1)) <| hQ hbw1 (b:=w.heap.size);(try simp [go_sem] at zz);(try clear z_wpp x_wpp f_wpp l_wpp);(try clear z_wp x_wp f_wp l_wp);(try clear z_w x_w f_w l_w);obtain ⟨z_wpp,z_wp,z_w⟩:=zz;obtain ⟨x_wpp,f_wpp,l_wpp⟩:=bO z_wpp;obtain ⟨x_wp,f_wp,l_wp⟩:=bO z_wp;obtain ⟨x_w,f_w,l_w⟩:=bO z_w;clear hbw1 bb
  go_wp2
  exact bodyPost_ret (res_c Tryz.results74 rfl (ldHand (resting 2 e) (by simp [go_sem, *] <;> rfl))) rfl ⟨rfl,by exact zB⟩
end Go.Proofs.YtkiingmgpobgnaaGreat
set_option linter.unusedSimpArgs false
set_option linter.unusedVariables false
namespace Go.Proofs.YtkiingmgpobgnaaGreat
open Go.RowKit
set_option linter.unusedSimpArgs false
attribute [local simp] bx_size
attribute [local go_sem ↓] zeroHand zeroChan toLHand toLChan toVHand toVChan storeHand storeChan storeHandC storeChanC
set_option maxRecDepth 100000 in
set_option maxHeartbeats 2000000 in
theorem parkTouch_n (c:Ch) (h:Ha) (v1 v2:Value) (lo:Nat) (w:World) (h1:OCells w lo v1 c.cells) (h2:OInts w lo v2 c.words) (hc:chanOk c=true) (hx:wordOf c h.mine=-1) :
    Calls Tryz.prog 43 #[.agg (cvals c v1 v2),.agg (hvals h)] w fun e W'=>∃ T s,e=.panicked [{ v:=.iface T s,recovered:=false }]∧Below w.heap.size w W':=by
  have OW:=Lib.hid fun W a b=>ownWord_no c h v1 v2 lo W a b hc hx
  clear hx hc
  have b1:=fun j (hj:v1.ownBlock=some j)=>(h1.lt j hj).2
  have b2:=fun j (hj:v2.ownBlock=some j)=>(h2.lt j hj).2
  obtain ⟨a1,q1,rfl,_⟩:=h1.seg
  obtain ⟨a2,q2,rfl,_⟩:=h2.seg
  have O1:=Lib.hid h1
  have O2:=Lib.hid h2
  clear h1 h2
  have o1:=O1.out
  have o2:=O2.out
  go_enter Tryz.func43,Tryz.ntmps43
  go_wp2_with fail
  refine bHit w (by exact zB) fun bb=>?_
  refine (OW.out _ (by exact zO o1 o1) (by exact zO o2 o2)).mono ?_
  rintro _ w1 ⟨T,s,rfl,hE⟩
  go_wp2
  exact ⟨rfl,T,s,rfl,bT bb hE⟩
set_option maxRecDepth 100000 in
set_option maxHeartbeats 2000000 in
theorem parkTouch_23 (c:Ch) (h:Ha) (v1 v2:Value) (lo:Nat) (w:World) (h1:OCells w lo v1 c.cells) (h2:OInts w lo v2 c.words) (hc:chanOk c=true) (x:Int) (hx:wordOf c h.mine=x) (hp:¬ x<0) (hq:(h.pos == 23)=true) :
    Calls Tryz.prog 43 #[.agg (cvals c v1 v2),.agg (hvals h)] w fun r w'=>StepO w w' lo v1 v2 ((c,heardH h x,x != 0)) r:=by
  have OW:=Lib.hid fun W a b=>ownWord_yes c h v1 v2 lo W a b hc x hx hp
  clear hx hp hc
  have HE:=Lib.hid fun W=>heard_any h x W
  obtain ⟨y,hy⟩:∃ y,heardH h x=y:=⟨_,rfl⟩
  rw [hy] at HE
  rw [hy]
  clear hy
  have b1:=fun j (hj:v1.ownBlock=some j)=>(h1.lt j hj).2
  have b2:=fun j (hj:v2.ownBlock=some j)=>(h2.lt j hj).2
  obtain ⟨a1,q1,rfl,_⟩:=h1.seg
  obtain ⟨a2,q2,rfl,_⟩:=h2.seg
  have O1:=Lib.hid h1
  have O2:=Lib.hid h2
  clear h1 h2
  have o1:=O1.out
  have o2:=O2.out
  go_enter Tryz.func43,Tryz.ntmps43
  go_wp2_with fail;refine bHit w (by exact zB) fun bb=>?_;refine (OW.out _ (by exact zO o1 o1) (by exact zO o2 o2)).mono ?_;rintro _ w1 ⟨rfl,hbw1⟩;have hCw1:Below w.heap.size w w1:=bT bb hbw1;have hsw1:=hbw1.size;(try simp at hsw1);have zz:=q4 hbw1 (b:=w.heap.size);(try simp [go_sem] at zz);(try clear z_wppp x_wppp f_wppp l_wppp);(try clear z_wpp x_wpp f_wpp l_wpp);(try clear z_wp x_wp f_wp l_wp);(try clear z_w x_w f_w l_w);obtain ⟨z_wppp,z_wpp,z_wp,z_w⟩:=zz;obtain ⟨x_wppp,f_wppp,l_wppp⟩:=bO z_wppp;obtain ⟨x_wpp,f_wpp,l_wpp⟩:=bO z_wpp;obtain ⟨x_wp,f_wp,l_wp⟩:=bO z_wp;obtain ⟨x_w,f_w,l_w⟩:=bO z_w;have hKw1:Below w.heap.size w w1:=hCw1;clear hbw1 bb
  have p1:=own_below o1 hKw1
  have p2:=own_below o2 hKw1
  have k0:w.heap.size<w1.heap.size:=by omega
  have k1:w.heap.size+1<w1.heap.size:=by omega
  have k2:w.heap.size+1+1<w1.heap.size:=by omega
  have k3:w.heap.size+1+1+1<w1.heap.size:=by omega
  go_wp2_with fail
  go_region_held3 (fun w'=>hp w' w.heap.size=some (.cells (cvals c (.slice a1 c.cells.length q1) (.slice a2 c.words.length q2)) 27)∧hp w' (w.heap.size+1)=some (.cells (hvals h) 31))
    (first|(simp [*,go_sem]))
    (first|((go_at_call 73;refine bHit w (by exact zB) fun bb=>?_;refine bHit w1 (by exact zB) fun bk=>?_;refine (HE.out _).mono ?_;rintro _ w2 ⟨rfl,hbw2⟩;have hCw2:Below w.heap.size w w2:=bT bb hbw2;have hsw2:=hbw2.size;(try simp at hsw2);have zz:=q4 hbw2 (b:=w.heap.size);(first|simp [go_sem,z_wppp,z_wpp,z_wp,z_w,l_w,l_wp,l_wpp,l_wppp,k0,k1,k2,k3] at zz|simp [go_sem] at zz|skip);(try clear z_wppp x_wppp f_wppp l_wppp);(try clear z_wpp x_wpp f_wpp l_wpp);(try clear z_wp x_wp f_wp l_wp);(try clear z_w x_w f_w l_w);obtain ⟨z_wppp,z_wpp,z_wp,z_w⟩:=zz;obtain ⟨x_wppp,f_wppp,l_wppp⟩:=bO z_wppp;obtain ⟨x_wpp,f_wpp,l_wpp⟩:=bO z_wpp;obtain ⟨x_wp,f_wp,l_wp⟩:=bO z_wp;obtain ⟨x_w,f_w,l_w⟩:=bO z_w;have hKw2:Below w1.heap.size w1 w2:=bT bk hbw2;clear hbw2 bb bk);have r1:=own_below p1 hKw2;have r2:=own_below p2 hKw2))
  go_wp2
  refine bodyPost_ret (res_cct Tryz.results43 rfl (ldChan c (.slice a1 c.cells.length q1) (.slice a2 c.words.length q2) (by simp [go_sem, *] <;> rfl)) rfl (ldHand y (by simp [go_sem, *] <;> rfl))) rfl ⟨⟨_,_,rfl,?_,?_,fresh_refl _ _,fresh_refl _ _⟩,onlB (by exact zB)⟩
  · exact zO r1 o1
  · exact zO r2 o2
set_option maxRecDepth 100000 in
set_option maxHeartbeats 2000000 in
theorem parkTouch_24n (c:Ch) (h:Ha) (v1 v2:Value) (lo:Nat) (w:World) (h1:OCells w lo v1 c.cells) (h2:OInts w lo v2 c.words) (hc:chanOk c=true) (x:Int) (hx:wordOf c h.mine=x) (hp:¬ x<0) (hq:(h.pos == 24)=true) (hk:(h.code != 2)=true) :
    Calls Tryz.prog 43 #[.agg (cvals c v1 v2),.agg (hvals h)] w fun e W'=>∃ T s,e=.panicked [{ v:=.iface T s,recovered:=false }]∧Below w.heap.size w W':=by
  have OW:=Lib.hid fun W a b=>ownWord_yes c h v1 v2 lo W a b hc x hx hp
  clear hx hp hc
  have FE:=Lib.hid fun W a b=>fetched_no c h v1 v2 lo W a b hk
  clear hk
  have hq3:(h.pos == 23)=false:=by simp at hq ⊢;omega
  have b1:=fun j (hj:v1.ownBlock=some j)=>(h1.lt j hj).2
  have b2:=fun j (hj:v2.ownBlock=some j)=>(h2.lt j hj).2
  obtain ⟨a1,q1,rfl,_⟩:=h1.seg
  obtain ⟨a2,q2,rfl,_⟩:=h2.seg
  have O1:=Lib.hid h1
  have O2:=Lib.hid h2
  clear h1 h2
  have o1:=O1.out
  have o2:=O2.out
  go_enter Tryz.func43,Tryz.ntmps43
  go_wp2_with fail;refine bHit w (by exact zB) fun bb=>?_;refine (OW.out _ (by exact zO o1 o1) (by exact zO o2 o2)).mono ?_;rintro _ w1 ⟨rfl,hbw1⟩;have hCw1:Below w.heap.size w w1:=bT bb hbw1;have hsw1:=hbw1.size;(try simp at hsw1);have zz:=q4 hbw1 (b:=w.heap.size);(try simp [go_sem] at zz);(try clear z_wppp x_wppp f_wppp l_wppp);(try clear z_wpp x_wpp f_wpp l_wpp);(try clear z_wp x_wp f_wp l_wp);(try clear z_w x_w f_w l_w);obtain ⟨z_wppp,z_wpp,z_wp,z_w⟩:=zz;obtain ⟨x_wppp,f_wppp,l_wppp⟩:=bO z_wppp;obtain ⟨x_wpp,f_wpp,l_wpp⟩:=bO z_wpp;obtain ⟨x_wp,f_wp,l_wp⟩:=bO z_wp;obtain ⟨x_w,f_w,l_w⟩:=bO z_w;have hKw1:Below w.heap.size w w1:=hCw1;clear hbw1 bb
  have p1:=own_below o1 hKw1
  have p2:=own_below o2 hKw1
  have k0:w.heap.size<w1.heap.size:=by omega
  have k1:w.heap.size+1<w1.heap.size:=by omega
  have k2:w.heap.size+1+1<w1.heap.size:=by omega
  have k3:w.heap.size+1+1+1<w1.heap.size:=by omega
  go_upto_region 6 with fail
  refine wp_region_inv [[],[],[],[1,2],[0],[1,2,3],[]] [23,24,25,26,6] (fun l s wx=>(Below w.heap.size w wx)∧(hp wx w.heap.size=some (.cells (cvals c (.slice a1 c.cells.length q1) (.slice a2 c.words.length q2)) 27))∧(hp wx (w.heap.size+1)=some (.cells (hvals h) 31))∧(l 4=false→hp wx (w.heap.size+1+1)=some (.cells (cvals Ch.zero (.slice none 0 0) (.slice none 0 0)) 27))∧(OCells wx lo (.slice a1 c.cells.length q1) c.cells)∧(OInts wx lo (.slice a2 c.words.length q2) c.words)∧(l 0=true→s 23=.agg (cvals c (.slice a1 c.cells.length q1) (.slice a2 c.words.length q2)))∧(l 1=true→s 24=.agg (cvals c (.slice a1 c.cells.length q1) (.slice a2 c.words.length q2)))∧(l 2=true→s 25=.agg (hvals h))∧(l 3=true→False)) (by kernel_rfl) (by kernel_rfl) (by kernel_rfl) (fun s=>by (simp only [fill,fillA,List.setIfInBounds_toArray,List.set_cons_zero,List.set_cons_succ];rfl)) (fun s=>⟨(by exact zB),by simp [go_sem, *],by simp [go_sem, *],fun _=>by simp [go_sem, *],oDr p1,oDr p2,fun h=>absurd h Bool.false_ne_true,fun h=>absurd h Bool.false_ne_true,fun h=>absurd h Bool.false_ne_true,fun h=>absurd h Bool.false_ne_true⟩) ?_ ?_
  refine ⟨?_,?_,?_,?_,?_,?_,?_,trivial⟩;rotate_left 7
  · intro l s w8 hall hf
    exact (hf.2.2.2.2.2.2.2.2.2 (hall 3 rfl)).elim
  · intro l s wx hl hd hn hf0 K hK
    have hf:=Lib.hid hf0
    clear hf0
    have zc:=hf.out.2.1
    go_simp
    refine hK.out (upd s 23 (.agg (cvals c (.slice a1 c.cells.length q1) (.slice a2 c.words.length q2)))) _ _ (by simp [upd_at] <;> rfl) ⟨hf.out.1,hf.out.2.1,hf.out.2.2.1,hf.out.2.2.2.1,hf.out.2.2.2.2.1,hf.out.2.2.2.2.2.1,fun _=>rfl,fun h=>(hf.out.2.2.2.2.2.2.2.1 h),fun h=>(hf.out.2.2.2.2.2.2.2.2.1 h),fun h=>(hf.out.2.2.2.2.2.2.2.2.2 h)⟩
  · intro l s wx hl hd hn hf0 K hK
    have hf:=Lib.hid hf0
    clear hf0
    have zc:=hf.out.2.1
    go_simp
    refine hK.out (upd s 24 (.agg (cvals c (.slice a1 c.cells.length q1) (.slice a2 c.words.length q2)))) _ _ (by simp [upd_at] <;> rfl) ⟨hf.out.1,hf.out.2.1,hf.out.2.2.1,hf.out.2.2.2.1,hf.out.2.2.2.2.1,hf.out.2.2.2.2.2.1,fun h=>(hf.out.2.2.2.2.2.2.1 h),fun _=>rfl,fun h=>(hf.out.2.2.2.2.2.2.2.2.1 h),fun h=>absurd h (by rw [show upd l 1 true 3=l 3 from rfl,hn 3 rfl];exact Bool.false_ne_true)⟩
  · intro l s wx hl hd hn hf0 K hK
    have hf:=Lib.hid hf0
    clear hf0
    have zh:=hf.out.2.2.1
    go_simp
    refine hK.out (upd s 25 (.agg (hvals h))) _ _ (by simp [upd_at] <;> rfl) ⟨hf.out.1,hf.out.2.1,hf.out.2.2.1,hf.out.2.2.2.1,hf.out.2.2.2.2.1,hf.out.2.2.2.2.2.1,fun h=>(hf.out.2.2.2.2.2.2.1 h),fun h=>(hf.out.2.2.2.2.2.2.2.1 h),fun _=>rfl,fun h=>absurd h (by rw [show upd l 2 true 3=l 3 from rfl,hn 3 rfl];exact Bool.false_ne_true)⟩
  · intro l s wx hl hd hn hf0 K hK
    have hf:=Lib.hid hf0
    clear hf0
    have e1:=(hf.out.2.2.2.2.2.2.2.1 (hd 1 rfl))
    have e2:=(hf.out.2.2.2.2.2.2.2.2.1 (hd 2 rfl))
    go_simp
    go_at_call 74
    refine (FE.out _ hf.out.2.2.2.2.1 hf.out.2.2.2.2.2.1).mono ?_
    rintro _ wy ⟨T,sv,rfl,hE⟩
    exact ⟨rfl,T,sv,rfl,bT hf.out.1 hE⟩
  · intro l s wx hl hd hn hf0 K hK
    have hf:=Lib.hid hf0
    clear hf0
    have e0:=(hf.out.2.2.2.2.2.2.1 (hd 0 rfl))
    have hB:=hf.out.1
    have zr:=hf.out.2.2.2.1 hl
    go_simp
    refine hK.out (s) _ _ (by simp [upd_at,e0] <;> rfl) ⟨bBx hB (by omega),(bx_heap_ne (by omega)).trans hf.out.2.1,(bx_heap_ne (by omega)).trans hf.out.2.2.1,fun h9=>absurd h9 (by rw [show upd l 4 true 4=true from rfl];decide),own_far hf.out.2.2.2.2.1 zr (by decide),own_far hf.out.2.2.2.2.2.1 zr (by decide),fun h=>(hf.out.2.2.2.2.2.2.1 h),fun h=>(hf.out.2.2.2.2.2.2.2.1 h),fun h=>(hf.out.2.2.2.2.2.2.2.2.1 h),fun h=>(hf.out.2.2.2.2.2.2.2.2.2 h)⟩
  · intro l s wx hl hd hn hf0 K hK
    exact (hf0.2.2.2.2.2.2.2.2.2 (hd 3 rfl)).elim
  · intro l s wx hl hd hn hf0 K hK
    have hf:=Lib.hid hf0
    clear hf0
    go_simp
    refine hK.out (upd s 6 (.bool true)) _ _ (by simp [upd_at] <;> rfl) ⟨hf.out.1,hf.out.2.1,hf.out.2.2.1,hf.out.2.2.2.1,hf.out.2.2.2.2.1,hf.out.2.2.2.2.2.1,fun h=>(hf.out.2.2.2.2.2.2.1 h),fun h=>(hf.out.2.2.2.2.2.2.2.1 h),fun h=>(hf.out.2.2.2.2.2.2.2.2.1 h),fun h=>(hf.out.2.2.2.2.2.2.2.2.2 h)⟩
set_option maxRecDepth 100000 in
set_option maxHeartbeats 2000000 in
theorem parkTouch_24 (c:Ch) (h:Ha) (v1 v2:Value) (lo:Nat) (w:World) (h1:OCells w lo v1 c.cells) (h2:OInts w lo v2 c.words) (hc0:0≤h.cell) (hc1:h.cell<c.cells.length) (hc:chanOk c=true) (x:Int) (hx:wordOf c h.mine=x) (hp:¬ x<0) (hq:(h.pos == 24)=true) (hk:(h.code != 2)=false) :
    Calls Tryz.prog 43 #[.agg (cvals c v1 v2),.agg (hvals h)] w fun r w'=>StepO w w' lo v1 v2 ((c,resting 2 (cellAt c h.cell).e,true)) r:=by
  have OW:=Lib.hid fun W a b=>ownWord_yes c h v1 v2 lo W a b hc x hx hp
  clear hx hp hc
  have FE:=Lib.hid fun W a b=>fetched_yes c h v1 v2 lo W a b hc0 hc1 hk
  clear hk hc0 hc1
  have hq3:(h.pos == 23)=false:=by simp at hq ⊢;omega
  obtain ⟨y,hy⟩:∃ y,resting 2 (cellAt c h.cell).e=y:=⟨_,rfl⟩
  rw [hy] at FE
  rw [hy]
  clear hy
  have b1:=fun j (hj:v1.ownBlock=some j)=>(h1.lt j hj).2
  have b2:=fun j (hj:v2.ownBlock=some j)=>(h2.lt j hj).2
  obtain ⟨a1,q1,rfl,_⟩:=h1.seg
  obtain ⟨a2,q2,rfl,_⟩:=h2.seg
  have O1:=Lib.hid h1
  have O2:=Lib.hid h2
  clear h1 h2
  have o1:=O1.out
  have o2:=O2.out
  go_enter Tryz.func43,Tryz.ntmps43
  go_wp2_with fail;refine bHit w (by exact zB) fun bb=>?_;refine (OW.out _ (by exact zO o1 o1) (by exact zO o2 o2)).mono ?_;rintro _ w1 ⟨rfl,hbw1⟩;have hCw1:Below w.heap.size w w1:=bT bb hbw1;have hsw1:=hbw1.size;(try simp at hsw1);have zz:=q4 hbw1 (b:=w.heap.size);(try simp [go_sem] at zz);(try clear z_wppp x_wppp f_wppp l_wppp);(try clear z_wpp x_wpp f_wpp l_wpp);(try clear z_wp x_wp f_wp l_wp);(try clear z_w x_w f_w l_w);obtain ⟨z_wppp,z_wpp,z_wp,z_w⟩:=zz;obtain ⟨x_wppp,f_wppp,l_wppp⟩:=bO z_wppp;obtain ⟨x_wpp,f_wpp,l_wpp⟩:=bO z_wpp;obtain ⟨x_wp,f_wp,l_wp⟩:=bO z_wp;obtain ⟨x_w,f_w,l_w⟩:=bO z_w;have hKw1:Below w.heap.size w w1:=hCw1;clear hbw1 bb
  have p1:=own_below o1 hKw1
  have p2:=own_below o2 hKw1
  have k0:w.heap.size<w1.heap.size:=by omega
  have k1:w.heap.size+1<w1.heap.size:=by omega
  have k2:w.heap.size+1+1<w1.heap.size:=by omega
  have k3:w.heap.size+1+1+1<w1.heap.size:=by omega
  go_wp2_with fail
  go_region_held3 (fun w'=>hp w' w.heap.size=some (.cells (cvals c (.slice a1 c.cells.length q1) (.slice a2 c.words.length q2)) 27)∧hp w' (w.heap.size+1)=some (.cells (hvals h) 31))
    (first|(simp [*,go_sem]))
    (first|((go_at_call 74;refine bHit w (by exact zB) fun bb=>?_;refine bHit w1 (by exact zB) fun bk=>?_;refine (FE.out _ (by exact zO p1 p1) (by exact zO p2 p2)).mono ?_;rintro _ w2 ⟨rfl,hbw2⟩;have hCw2:Below w.heap.size w w2:=bT bb hbw2;have hsw2:=hbw2.size;(try simp at hsw2);have zz:=q4 hbw2 (b:=w.heap.size);(first|simp [go_sem,z_wppp,z_wpp,z_wp,z_w,l_w,l_wp,l_wpp,l_wppp,k0,k1,k2,k3] at zz|simp [go_sem] at zz|skip);(try clear z_wppp x_wppp f_wppp l_wppp);(try clear z_wpp x_wpp f_wpp l_wpp);(try clear z_wp x_wp f_wp l_wp);(try clear z_w x_w f_w l_w);obtain ⟨z_wppp,z_wpp,z_wp,z_w⟩:=zz;obtain ⟨x_wppp,f_wppp,l_wppp⟩:=bO z_wppp;obtain ⟨x_wpp,f_wpp,l_wpp⟩:=bO z_wpp;obtain ⟨x_wp,f_wp,l_wp⟩:=bO z_wp;obtain ⟨x_w,f_w,l_w⟩:=bO z_w;have hKw2:Below w1.heap.size w1 w2:=bT bk hbw2;clear hbw2 bb bk);have r1:=own_below p1 hKw2;have r2:=own_below p2 hKw2))
  go_wp2
  refine bodyPost_ret (res_cct Tryz.results43 rfl (ldChan c (.slice a1 c.cells.length q1) (.slice a2 c.words.length q2) (by simp [go_sem, *] <;> rfl)) rfl (ldHand y (by simp [go_sem, *] <;> rfl))) rfl ⟨⟨_,_,rfl,?_,?_,fresh_refl _ _,fresh_refl _ _⟩,onlB (by exact zB)⟩
  · exact zO r1 o1
  · exact zO r2 o2
set_option maxRecDepth 100000 in
set_option maxHeartbeats 2000000 in
theorem parkTouch_o (c:Ch) (h:Ha) (v1 v2:Value) (lo:Nat) (w:World) (h1:OCells w lo v1 c.cells) (h2:OInts w lo v2 c.words) (hc:chanOk c=true) (x:Int) (hx:wordOf c h.mine=x) (hp:¬ x<0) (hq:(h.pos == 23)=false) (hq4:(h.pos == 24)=false) (hq5:(h.pos == 25)=false) :
    Calls Tryz.prog 43 #[.agg (cvals c v1 v2),.agg (hvals h)] w fun e W'=>∃ T s,e=.panicked [{ v:=.iface T s,recovered:=false }]∧Below w.heap.size w W':=by
  have OW:=Lib.hid fun W a b=>ownWord_yes c h v1 v2 lo W a b hc x hx hp
  clear hx hp hc
  have b1:=fun j (hj:v1.ownBlock=some j)=>(h1.lt j hj).2
  have b2:=fun j (hj:v2.ownBlock=some j)=>(h2.lt j hj).2
  obtain ⟨a1,q1,rfl,_⟩:=h1.seg
  obtain ⟨a2,q2,rfl,_⟩:=h2.seg
  have O1:=Lib.hid h1
  have O2:=Lib.hid h2
  clear h1 h2
  have o1:=O1.out
  have o2:=O2.out
  go_enter Tryz.func43,Tryz.ntmps43
  go_wp2_with fail;refine bHit w (by exact zB) fun bb=>?_;refine (OW.out _ (by exact zO o1 o1) (by exact zO o2 o2)).mono ?_;rintro _ w1 ⟨rfl,hbw1⟩;have hCw1:Below w.heap.size w w1:=bT bb hbw1;have hsw1:=hbw1.size;(try simp at hsw1);have zz:=q4 hbw1 (b:=w.heap.size);(try simp [go_sem] at zz);(try clear z_wppp x_wppp f_wppp l_wppp);(try clear z_wpp x_wpp f_wpp l_wpp);(try clear z_wp x_wp f_wp l_wp);(try clear z_w x_w f_w l_w);obtain ⟨z_wppp,z_wpp,z_wp,z_w⟩:=zz;obtain ⟨x_wppp,f_wppp,l_wppp⟩:=bO z_wppp;obtain ⟨x_wpp,f_wpp,l_wpp⟩:=bO z_wpp;obtain ⟨x_wp,f_wp,l_wp⟩:=bO z_wp;obtain ⟨x_w,f_w,l_w⟩:=bO z_w;have hKw1:Below w.heap.size w w1:=hCw1;clear hbw1 bb
  have p1:=own_below o1 hKw1
  have p2:=own_below o2 hKw1
  have k0:w.heap.size<w1.heap.size:=by omega
  have k1:w.heap.size+1<w1.heap.size:=by omega
  have k2:w.heap.size+1+1<w1.heap.size:=by omega
  have k3:w.heap.size+1+1+1<w1.heap.size:=by omega
  go_wp2
  exact ⟨rfl,_,_,rfl,by exact zB⟩
set_option maxRecDepth 100000 in
set_option maxHeartbeats 2000000 in
theorem parkTouch_25 (c:Ch) (h:Ha) (v1 v2:Value) (lo:Nat) (w:World) (h1:OCells w lo v1 c.cells) (h2:OInts w lo v2 c.words) (hc0:0≤h.cell) (hc1:h.cell<c.cells.length) (hc:chanOk c=true) (x:Int) (hx:wordOf c h.mine=x) (hp:¬ x<0) (hq:(h.pos == 25)=true) :
    Calls Tryz.prog 43 #[.agg (cvals c v1 v2),.agg (hvals h)] w fun r w'=>StepO w w' lo v1 v2 ((stateC c h.cell (goneS h),resting 3 0,true)) r:=by
  have OW:=Lib.hid fun W a b=>ownWord_yes c h v1 v2 lo W a b hc x hx hp
  clear hx hp hc
  obtain ⟨v,hv⟩:∃ v,goneS h=v:=⟨_,rfl⟩
  have GO:=Lib.hid fun W=>goneOf_any h.code h.elem W
  rw [show (if h.code == 1 then (9:Int) else 10)=v from hv] at GO
  rw [hv]
  clear hv
  obtain ⟨i,hci⟩:∃ i:Nat,h.cell=(i:Int):=⟨h.cell.toNat,by omega⟩
  have hi:i<c.cells.length:=by omega
  have hi0:(0:Int)≤(i:Int):=by omega
  have hi1:(i:Int)<(c.cells.length:Int):=by omega
  have hne:=h1.ne h2
  obtain ⟨a2,q2,rfl,_⟩:=h2.seg
  obtain ⟨g,q1,rfl,hlo1,hlt,hcell,hfr⟩:=h1.open1 hi
  have O1:=Lib.hid h1
  have O2:=Lib.hid h2
  have lg0:g<w.heap.size+1:=by omega
  have lg1:g<w.heap.size+1+1:=by omega
  have lg2:g<w.heap.size+1+1+1:=by omega
  have ng0:g≠w.heap.size:=by omega
  have ng1:g≠w.heap.size+1:=by omega
  have ng2:g≠w.heap.size+1+1:=by omega
  have ng3:g≠w.heap.size+1+1+1:=by omega
  have mg0:w.heap.size≠g:=by omega
  have mg1:w.heap.size+1≠g:=by omega
  have mg2:w.heap.size+1+1≠g:=by omega
  have mg3:w.heap.size+1+1+1≠g:=by omega
  have hx:Hid (cellAt c h.cell=c.cells.getD i ⟨0,0,0⟩):=by simp [cellAt,Hid,hci]
  have c0:=hcell 0 (by omega)
  have c1:=hcell 1 (by omega)
  have c2:=hcell 2 (by omega)
  simp only [C3.val,Nat.add_zero] at c0 c1 c2
  have hq3:(h.pos == 23)=false:=by simp at hq ⊢;omega
  have hq4:(h.pos == 24)=false:=by simp at hq ⊢;omega
  rw [show stateC c h.cell v=stateC c i v by rw [hci]]
  have e1:=stateC_cells c i v
  have P1:=fun W (o:OCells W lo (.slice (some ⟨g,0,none⟩) c.cells.length q1) c.cells)=>OCells.setS o hi v
  rw [← e1] at P1
  clear hx hcell h1 h2 e1
  generalize c.cells.getD i ⟨0,0,0⟩=x0 at *
  have o1:=O1.out
  have o2:=O2.out
  have HCI:=Lib.hid hci
  clear hci hc0 hc1
  go_enter Tryz.func43,Tryz.ntmps43
  go_wp2_with fail;refine bHit w (by exact zB) fun bb=>?_;refine (OW.out _ (by exact zO o1 o1) (by exact zO o2 o2)).mono ?_;rintro _ w1 ⟨rfl,hbw1⟩;have hCw1:Below w.heap.size w w1:=bT bb hbw1;have hsw1:=hbw1.size;(try simp at hsw1);have zz:=q4 hbw1 (b:=w.heap.size);(try simp [go_sem] at zz);(try clear z_wppp x_wppp f_wppp l_wppp);(try clear z_wpp x_wpp f_wpp l_wpp);(try clear z_wp x_wp f_wp l_wp);(try clear z_w x_w f_w l_w);obtain ⟨z_wppp,z_wpp,z_wp,z_w⟩:=zz;obtain ⟨x_wppp,f_wppp,l_wppp⟩:=bO z_wppp;obtain ⟨x_wpp,f_wpp,l_wpp⟩:=bO z_wpp;obtain ⟨x_wp,f_wp,l_wp⟩:=bO z_wp;obtain ⟨x_w,f_w,l_w⟩:=bO z_w;have hKw1:Below w.heap.size w w1:=hCw1;clear hbw1 bb
  have p1:=own_below o1 hKw1
  have p2:=own_below o2 hKw1
  have k0:w.heap.size<w1.heap.size:=by omega
  have k1:w.heap.size+1<w1.heap.size:=by omega
  have k2:w.heap.size+1+1<w1.heap.size:=by omega
  have k3:w.heap.size+1+1+1<w1.heap.size:=by omega
  go_upto_region 8 with fail
  refine wp_region_inv [[],[0],[],[2],[],[4],[4,5],[0,1,2,3],[0,1,2,3,7],[0,1,2,3,4,5,6,7,8]] [29,30,31,32,33,34,35,36,37] (fun l s wx=>(l 9=false→Below w1.heap.size w1 wx)∧(l 0=true→s 29=.pointer (some ⟨w.heap.size,4,none⟩))∧(l 1=true→s 30=.slice (some ⟨g,0,none⟩) c.cells.length q1)∧(l 2=true→s 31=.pointer (some ⟨w.heap.size+1,3,none⟩))∧(l 3=true→s 32=.int .i64 i)∧(l 4=true→s 33=.pointer (some ⟨w.heap.size+1,1,none⟩))∧(l 5=true→s 34=.agg #[.int .i64 h.code,.int .i64 h.elem])∧(l 6=true→s 35=.int .i64 v)∧(l 7=true→s 36=.pointer (some ⟨g,i*3,none⟩))∧(l 8=true→s 37=.pointer (some ⟨g,i*3,none⟩))∧(l 9=true→Gr g w1 wx∧OCells wx lo (.slice (some ⟨g,0,none⟩) c.cells.length q1) (stateC c i v).cells∧OInts wx lo (.slice a2 c.words.length q2) c.words)) (by kernel_rfl) (by kernel_rfl) (by kernel_rfl) (fun s=>by (simp only [fill,fillA,List.setIfInBounds_toArray,List.set_cons_zero,List.set_cons_succ];rfl)) (fun s=>⟨fun _=>(Below.refl _ _).drew,fun h=>absurd h Bool.false_ne_true,fun h=>absurd h Bool.false_ne_true,fun h=>absurd h Bool.false_ne_true,fun h=>absurd h Bool.false_ne_true,fun h=>absurd h Bool.false_ne_true,fun h=>absurd h Bool.false_ne_true,fun h=>absurd h Bool.false_ne_true,fun h=>absurd h Bool.false_ne_true,fun h=>absurd h Bool.false_ne_true,fun h=>absurd h Bool.false_ne_true⟩) ?_ ?_
  refine ⟨?_,?_,?_,?_,?_,?_,?_,?_,?_,?_,trivial⟩;rotate_left 10
  · intro l s w5 hall hf
    obtain ⟨hgw5,r1,r2⟩:=(hf.2.2.2.2.2.2.2.2.2.2 (hall 9 rfl))
    clear hf hall
    have sg0:some w.heap.size≠some g:=by simp;omega
    have sg1:some (w.heap.size+1)≠some g:=by simp;omega
    have sg2:some (w.heap.size+1+1)≠some g:=by simp;omega
    have sg3:some (w.heap.size+1+1+1)≠some g:=by simp;omega
    have hsw5:=hgw5.size;(try (simp at hsw5));have zz:=And.intro (grHp hgw5 (b:=w.heap.size+1+1+1) (by (try simp) <;> omega) (by assumption)) <| And.intro (grHp hgw5 (b:=w.heap.size+1+1) (by (try simp) <;> omega) (by assumption)) <| And.intro (grHp hgw5 (b:=w.heap.size+1) (by (try simp) <;> omega) (by assumption)) <| grHp hgw5 (b:=w.heap.size) (by (try simp) <;> omega) (by assumption);(first|simp [go_sem,z_wppp,z_wpp,z_wp,z_w,l_w,l_wp,l_wpp,l_wppp,k0,k1,k2,k3] at zz|simp [go_sem] at zz|skip);(try clear z_wppp x_wppp f_wppp l_wppp);(try clear z_wpp x_wpp f_wpp l_wpp);(try clear z_wp x_wp f_wp l_wp);(try clear z_w x_w f_w l_w);obtain ⟨z_wppp,z_wpp,z_wp,z_w⟩:=zz;obtain ⟨x_wppp,f_wppp,l_wppp⟩:=bO z_wppp;obtain ⟨x_wpp,f_wpp,l_wpp⟩:=bO z_wpp;obtain ⟨x_wp,f_wp,l_wp⟩:=bO z_wp;obtain ⟨x_w,f_w,l_w⟩:=bO z_w
    have hG5:Gr g w w5:=gT (gOfB hCw1) hgw5
    clear hgw5
    go_wp2_with fail
    go_region_held3 (fun w'=>hp w' w.heap.size=some (.cells (cvals c (.slice (some ⟨g,0,none⟩) c.cells.length q1) (.slice a2 c.words.length q2)) 27)∧hp w' (w.heap.size+1)=some (.cells (hvals h) 31))
      (first|(simp [*,go_sem]))
      (first|(go_at_call 76;refine (resting_any _ _ _).mono ?_;rintro _ w6 ⟨rfl,hbw6⟩;have hGw6:Gr g w w6:=gT (by (repeat (first|with_reducible assumption|with_reducible exact gR _ _|with_reducible refine gA ?_|with_reducible refine gD ?_|with_reducible refine gS ?_ (.inl rfl)|((with_reducible refine gBx ?_ (.inr ?_));rotate_left;(focus ((try dsimp only);(try simp);(try omega))))|((with_reducible refine gS ?_ (.inr ?_));rotate_left;(focus ((try dsimp only);(try simp);(try omega))))))) (gOfB hbw6);have hsw6:=hbw6.size;(try (simp at hsw6));have zz:=hQ hbw6 (b:=w.heap.size);(first|(simp [go_sem,z_w,l_w] at zz)|(simp [go_sem] at zz));(try clear x_w f_w);(try clear z_w);have z_w:=zz;clear zz;(try clear l_w);obtain ⟨x_w,f_w,l_w⟩:=bO z_w;have zz:=hQ hbw6 (b:=w.heap.size+1);(first|(simp [go_sem,z_wp,l_wp] at zz)|(simp [go_sem] at zz));(try clear x_wp f_wp);(try clear z_wp);have z_wp:=zz;clear zz;(try clear l_wp);obtain ⟨x_wp,f_wp,l_wp⟩:=bO z_wp;have zz:=hQ hbw6 (b:=w.heap.size+1+1);(first|(simp [go_sem,z_wpp,l_wpp] at zz)|(simp [go_sem] at zz));(try clear x_wpp f_wpp);(try clear z_wpp);have z_wpp:=zz;clear zz;(try clear l_wpp);obtain ⟨x_wpp,f_wpp,l_wpp⟩:=bO z_wpp;have zz:=hQ hbw6 (b:=w.heap.size+1+1+1);(first|(simp [go_sem,z_wppp,l_wppp] at zz)|(simp [go_sem] at zz));(try clear x_wppp f_wppp);(try clear z_wppp);have z_wppp:=zz;clear zz;(try clear l_wppp);obtain ⟨x_wppp,f_wppp,l_wppp⟩:=bO z_wppp;have p1:OCells w6 lo (.slice (some ⟨g,0,none⟩) c.cells.length q1) (stateC c i v).cells:=own_below (by exact zO r1 o1) hbw6;have p2:OInts w6 lo (.slice a2 c.words.length q2) c.words:=own_below (by exact zO r2 o2) hbw6))
    go_wp2
    refine bodyPost_ret (res_cct Tryz.results43 rfl (ldChan (stateC c i v) (.slice (some ⟨g,0,none⟩) c.cells.length q1) (.slice a2 c.words.length q2) (by simp [go_sem, *] <;> rfl)) rfl (ldHand (resting 3 0) (by simp [go_sem, *] <;> rfl))) rfl ⟨⟨_,_,rfl,?_,?_,fresh_refl _ _,fresh_refl _ _⟩,onl1 (show w.grownBy _ (some g) from (by (repeat (first|with_reducible assumption|with_reducible exact gR _ _|with_reducible refine gA ?_|with_reducible refine gD ?_|with_reducible refine gS ?_ (.inl rfl)|((with_reducible refine gBx ?_ (.inr ?_));rotate_left;(focus ((try dsimp only);(try simp);(try omega))))|((with_reducible refine gS ?_ (.inr ?_));rotate_left;(focus ((try dsimp only);(try simp);(try omega))))))))⟩
    · show OCells _ lo (.slice (some ⟨g,0,none⟩) c.cells.length q1) (stateC c i v).cells
      exact zO p1 o1
    · show OInts _ lo (.slice a2 c.words.length q2) c.words
      exact zO p2 o2
  · intro l s wx hl hd hn hf0 K hK
    have hf:=Lib.hid hf0
    clear hf0
    have hB:=hf.out.1 (hn 9 rfl)
    go_simp
    refine hK.out (upd s 29 (.pointer (some ⟨w.heap.size,4,none⟩))) _ _ (by simp [upd_at] <;> rfl) ⟨hf.out.1,fun _=>rfl,fun h=>absurd h (by rw [show upd l 0 true 1=l 1 from rfl,hn 1 rfl];exact Bool.false_ne_true),fun h=>(hf.out.2.2.2.1 h),fun h=>(hf.out.2.2.2.2.1 h),fun h=>(hf.out.2.2.2.2.2.1 h),fun h=>(hf.out.2.2.2.2.2.2.1 h),fun h=>(hf.out.2.2.2.2.2.2.2.1 h),fun h=>absurd h (by rw [show upd l 0 true 7=l 7 from rfl,hn 7 rfl];exact Bool.false_ne_true),fun h=>absurd h (by rw [show upd l 0 true 8=l 8 from rfl,hn 8 rfl];exact Bool.false_ne_true),fun h=>absurd h (by rw [show upd l 0 true 9=l 9 from rfl,hn 9 rfl];exact Bool.false_ne_true)⟩
  · intro l s wx hl hd hn hf0 K hK
    have hf:=Lib.hid hf0
    clear hf0
    have e0:=(hf.out.2.1 (hd 0 rfl))
    have hB:=hf.out.1 (hn 9 rfl)
    have zc:=hpS z_w hB
    have zh:=hpS z_wp hB
    have q:=(bO zc).1 4
    go_simp
    refine hK.out (upd s 30 (.slice (some ⟨g,0,none⟩) c.cells.length q1)) _ _ (by simp [upd_at,e0] <;> rfl) ⟨hf.out.1,fun h=>(hf.out.2.1 h),fun _=>rfl,fun h=>(hf.out.2.2.2.1 h),fun h=>(hf.out.2.2.2.2.1 h),fun h=>(hf.out.2.2.2.2.2.1 h),fun h=>(hf.out.2.2.2.2.2.2.1 h),fun h=>(hf.out.2.2.2.2.2.2.2.1 h),fun h=>absurd h (by rw [show upd l 1 true 7=l 7 from rfl,hn 7 rfl];exact Bool.false_ne_true),fun h=>absurd h (by rw [show upd l 1 true 8=l 8 from rfl,hn 8 rfl];exact Bool.false_ne_true),fun h=>absurd h (by rw [show upd l 1 true 9=l 9 from rfl,hn 9 rfl];exact Bool.false_ne_true)⟩
  · intro l s wx hl hd hn hf0 K hK
    have hf:=Lib.hid hf0
    clear hf0
    have hB:=hf.out.1 (hn 9 rfl)
    go_simp
    refine hK.out (upd s 31 (.pointer (some ⟨w.heap.size+1,3,none⟩))) _ _ (by simp [upd_at] <;> rfl) ⟨hf.out.1,fun h=>(hf.out.2.1 h),fun h=>(hf.out.2.2.1 h),fun _=>rfl,fun h=>absurd h (by rw [show upd l 2 true 3=l 3 from rfl,hn 3 rfl];exact Bool.false_ne_true),fun h=>(hf.out.2.2.2.2.2.1 h),fun h=>(hf.out.2.2.2.2.2.2.1 h),fun h=>(hf.out.2.2.2.2.2.2.2.1 h),fun h=>absurd h (by rw [show upd l 2 true 7=l 7 from rfl,hn 7 rfl];exact Bool.false_ne_true),fun h=>absurd h (by rw [show upd l 2 true 8=l 8 from rfl,hn 8 rfl];exact Bool.false_ne_true),fun h=>absurd h (by rw [show upd l 2 true 9=l 9 from rfl,hn 9 rfl];exact Bool.false_ne_true)⟩
  · intro l s wx hl hd hn hf0 K hK
    have hf:=Lib.hid hf0
    clear hf0
    have e2:=(hf.out.2.2.2.1 (hd 2 rfl))
    have hB:=hf.out.1 (hn 9 rfl)
    have zc:=hpS z_w hB
    have zh:=hpS z_wp hB
    have q:wx.cell? ⟨w.heap.size+1,3,none⟩=some (.int .i64 i):=by rw [← HCI.out];exact (bO zh).1 3
    go_simp
    refine hK.out (upd s 32 (.int .i64 i)) _ _ (by simp [upd_at,e2] <;> rfl) ⟨hf.out.1,fun h=>(hf.out.2.1 h),fun h=>(hf.out.2.2.1 h),fun h=>(hf.out.2.2.2.1 h),fun _=>rfl,fun h=>(hf.out.2.2.2.2.2.1 h),fun h=>(hf.out.2.2.2.2.2.2.1 h),fun h=>(hf.out.2.2.2.2.2.2.2.1 h),fun h=>absurd h (by rw [show upd l 3 true 7=l 7 from rfl,hn 7 rfl];exact Bool.false_ne_true),fun h=>absurd h (by rw [show upd l 3 true 8=l 8 from rfl,hn 8 rfl];exact Bool.false_ne_true),fun h=>absurd h (by rw [show upd l 3 true 9=l 9 from rfl,hn 9 rfl];exact Bool.false_ne_true)⟩
  · intro l s wx hl hd hn hf0 K hK
    have hf:=Lib.hid hf0
    clear hf0
    have hB:=hf.out.1 (hn 9 rfl)
    go_simp
    refine hK.out (upd s 33 (.pointer (some ⟨w.heap.size+1,1,none⟩))) _ _ (by simp [upd_at] <;> rfl) ⟨hf.out.1,fun h=>(hf.out.2.1 h),fun h=>(hf.out.2.2.1 h),fun h=>(hf.out.2.2.2.1 h),fun h=>(hf.out.2.2.2.2.1 h),fun _=>rfl,fun h=>absurd h (by rw [show upd l 4 true 5=l 5 from rfl,hn 5 rfl];exact Bool.false_ne_true),fun h=>absurd h (by rw [show upd l 4 true 6=l 6 from rfl,hn 6 rfl];exact Bool.false_ne_true),fun h=>(hf.out.2.2.2.2.2.2.2.2.1 h),fun h=>(hf.out.2.2.2.2.2.2.2.2.2.1 h),fun h=>absurd h (by rw [show upd l 4 true 9=l 9 from rfl,hn 9 rfl];exact Bool.false_ne_true)⟩
  · intro l s wx hl hd hn hf0 K hK
    have hf:=Lib.hid hf0
    clear hf0
    have e4:=(hf.out.2.2.2.2.2.1 (hd 4 rfl))
    have hB:=hf.out.1 (hn 9 rfl)
    have zc:=hpS z_w hB
    have zh:=hpS z_wp hB
    have qa:=(bO zh).1 1
    have qb:=(bO zh).1 2
    go_simp
    refine hK.out (upd s 34 (.agg #[.int .i64 h.code,.int .i64 h.elem])) _ _ (by simp [upd_at,e4] <;> rfl) ⟨hf.out.1,fun h=>(hf.out.2.1 h),fun h=>(hf.out.2.2.1 h),fun h=>(hf.out.2.2.2.1 h),fun h=>(hf.out.2.2.2.2.1 h),fun h=>(hf.out.2.2.2.2.2.1 h),fun _=>rfl,fun h=>absurd h (by rw [show upd l 5 true 6=l 6 from rfl,hn 6 rfl];exact Bool.false_ne_true),fun h=>(hf.out.2.2.2.2.2.2.2.2.1 h),fun h=>(hf.out.2.2.2.2.2.2.2.2.2.1 h),fun h=>absurd h (by rw [show upd l 5 true 9=l 9 from rfl,hn 9 rfl];exact Bool.false_ne_true)⟩
  · intro l s wx hl hd hn hf0 K hK
    have hf:=Lib.hid hf0
    clear hf0
    have e5:=(hf.out.2.2.2.2.2.2.1 (hd 5 rfl))
    have hB:=hf.out.1 (hn 9 rfl)
    go_simp
    go_at_call 75
    refine (GO.out _).mono ?_
    rintro _ wy ⟨rfl,hE⟩
    refine hK.out (upd s 35 (.int .i64 v)) _ _ (by simp [upd_at,e5] <;> rfl) ⟨fun h9=>bT (hf.out.1 h9) hE,fun h=>(hf.out.2.1 h),fun h=>(hf.out.2.2.1 h),fun h=>(hf.out.2.2.2.1 h),fun h=>(hf.out.2.2.2.2.1 h),fun h=>(hf.out.2.2.2.2.2.1 h),fun h=>(hf.out.2.2.2.2.2.2.1 h),fun _=>rfl,fun h=>(hf.out.2.2.2.2.2.2.2.2.1 h),fun h=>(hf.out.2.2.2.2.2.2.2.2.2.1 h),fun h=>absurd h (by rw [show upd l 6 true 9=l 9 from rfl,hn 9 rfl];exact Bool.false_ne_true)⟩
  · intro l s wx hl hd hn hf0 K hK
    have hf:=Lib.hid hf0
    clear hf0
    have e1:=(hf.out.2.2.1 (hd 1 rfl))
    have e3:=(hf.out.2.2.2.2.1 (hd 3 rfl))
    have hB:=hf.out.1 (hn 9 rfl)
    go_simp
    refine hK.out (upd s 36 (.pointer (some ⟨g,i*3,none⟩))) _ _ (by simp [upd_at,e1,e3] <;> rfl) ⟨hf.out.1,fun h=>(hf.out.2.1 h),fun h=>(hf.out.2.2.1 h),fun h=>(hf.out.2.2.2.1 h),fun h=>(hf.out.2.2.2.2.1 h),fun h=>(hf.out.2.2.2.2.2.1 h),fun h=>(hf.out.2.2.2.2.2.2.1 h),fun h=>(hf.out.2.2.2.2.2.2.2.1 h),fun _=>rfl,fun h=>absurd h (by rw [show upd l 7 true 8=l 8 from rfl,hn 8 rfl];exact Bool.false_ne_true),fun h=>absurd h (by rw [show upd l 7 true 9=l 9 from rfl,hn 9 rfl];exact Bool.false_ne_true)⟩
  · intro l s wx hl hd hn hf0 K hK
    have hf:=Lib.hid hf0
    clear hf0
    have e7:=(hf.out.2.2.2.2.2.2.2.2.1 (hd 7 rfl))
    have hB:=hf.out.1 (hn 9 rfl)
    go_simp
    refine hK.out (upd s 37 (.pointer (some ⟨g,i*3,none⟩))) _ _ (by simp [upd_at,e7] <;> rfl) ⟨hf.out.1,fun h=>(hf.out.2.1 h),fun h=>(hf.out.2.2.1 h),fun h=>(hf.out.2.2.2.1 h),fun h=>(hf.out.2.2.2.2.1 h),fun h=>(hf.out.2.2.2.2.2.1 h),fun h=>(hf.out.2.2.2.2.2.2.1 h),fun h=>(hf.out.2.2.2.2.2.2.2.1 h),fun h=>(hf.out.2.2.2.2.2.2.2.2.1 h),fun _=>rfl,fun h=>absurd h (by rw [show upd l 8 true 9=l 9 from rfl,hn 9 rfl];exact Bool.false_ne_true)⟩
  · intro l s wx hl hd hn hf0 K hK
    have hf:=Lib.hid hf0
    clear hf0
    have e8:=(hf.out.2.2.2.2.2.2.2.2.2.1 (hd 8 rfl))
    have e6:=(hf.out.2.2.2.2.2.2.2.1 (hd 6 rfl))
    have hB:=hf.out.1 hl
    have y0:=((bT hCw1 hB).cell (p:=⟨g,i*3,none⟩) hlt).trans c0
    have yf:=fun o=>((bT hCw1 hB).frozen (p:=⟨g,o,none⟩) hlt).trans (hfr o)
    go_simp
    refine hK.out (s) _ _ (by simp [upd_at,e8,e6] <;> rfl) ⟨fun h9=>absurd h9 (by rw [show upd l 9 true 9=true from rfl];decide),fun h=>(hf.out.2.1 h),fun h=>(hf.out.2.2.1 h),fun h=>(hf.out.2.2.2.1 h),fun h=>(hf.out.2.2.2.2.1 h),fun h=>(hf.out.2.2.2.2.2.1 h),fun h=>(hf.out.2.2.2.2.2.2.1 h),fun h=>(hf.out.2.2.2.2.2.2.2.1 h),fun h=>(hf.out.2.2.2.2.2.2.2.2.1 h),fun h=>(hf.out.2.2.2.2.2.2.2.2.2.1 h),fun _=>⟨gS (gOfB hB) (.inl rfl),P1 _ (own_below p1 hB),own_store (own_below p2 hB) (hne g rfl) _⟩⟩
theorem wordOf_neg {c:Ch} {v:Int} (hw:hasW c v=false):wordOf c v=-1:=by simp [wordOf,hw]
theorem word_neg {c:Ch} {v:Int} (hc:chanOk c=true) (hw:hasW c v=true):¬ wordOf c v<0∧wordOf c v=wordAt c v:=by
  have e0:wordOf c v=wordAt c v:=by simp [wordOf,hc,hw]
  refine ⟨?_,e0⟩
  rw [e0]
  simp only [chanOk,Bool.and_eq_true] at hc
  have ha:=List.all_eq_true.1 hc.2.2
  obtain ⟨h1,h2⟩:=hasW_iff.1 hw
  have hi:(v - 1).toNat<c.words.length:=by omega
  have:=inB_iff.1 (ha _ (List.getElem_mem hi))
  have e:wordAt c v=c.words[(v - 1).toNat]:=by unfold wordAt;rw [List.getD_eq_getElem?_getD,List.getElem?_eq_getElem hi];rfl
  rw [e]
  omega
theorem fin7_done {c:Ch} {h:Ha}:fin7 (c,h,true)=done c h:=rfl
theorem hand_codes {h:Ha} (hh:handOk h=true) (hp:23≤h.pos):h.code=1∨h.code=2:=by
  simp only [handOk,handA,Bool.and_eq_true,inB_iff] at hh
  have h0:¬ h.pos=0:=by omega
  simp [h0] at hh
  have:=hh.1.2
  simp [callOk] at this
  omega
theorem parkTouch_any (c:Ch) (h:Ha) (hc:chanOk c=true) (hh:handOk h=true) :
    (∃ x:St,parkStep c h=fin7 x∧∀ (v1 v2:Value) (lo:Nat) (W:World),OCells W lo v1 c.cells→OInts W lo v2 c.words→lo≤W.heap.size→Calls Tryz.prog 43 #[.agg (cvals c v1 v2),.agg (hvals h)] W fun r w'=>StepO W w' lo v1 v2 x r) ∨
    (parkStep c h=nothing∧∀ (v1 v2:Value) (lo:Nat) (W:World),OCells W lo v1 c.cells→OInts W lo v2 c.words→lo≤W.heap.size→Calls Tryz.prog 43 #[.agg (cvals c v1 v2),.agg (hvals h)] W fun e W'=>∃ T s,e=.panicked [{ v:=.iface T s,recovered:=false }]∧Below W.heap.size W W'):=by
  cases hw:hasW c h.mine with
  | false=>exact .inr ⟨by simp [parkStep,hw],fun v1 v2 lo W o1 o2 _=>parkTouch_n c h v1 v2 lo W o1 o2 hc (wordOf_neg hw)⟩
  | true =>
    obtain ⟨hx0,hx1⟩:=word_neg hc hw
    obtain ⟨hc0,hc9⟩:=hand_cell hh
    have hc1:h.cell<c.cells.length:=by have:=(chan_len hc).1;omega
    cases hq:(h.pos == 23) with
    | true =>
      have hp:h.pos=23:=by simpa using hq
      refine .inl ⟨(c,heardH h (wordOf c h.mine),wordOf c h.mine != 0),?_,fun v1 v2 lo W o1 o2 _=>parkTouch_23 c h v1 v2 lo W o1 o2 hc _ rfl hx0 hq⟩
      have hok:stepOk c h 23 25 0=true:=by simp [stepOk,hc,hh,hp,inB]
      rw [hx1]
      by_cases h0:wordAt c h.mine=0
      · simp [parkStep,hok,hw,hp,park9,h0,heardH,fin7,hc,hh]
      · have h0':(wordAt c h.mine != 0)=true:=by simpa using h0
        rw [h0',fin7_done]
        simp only [parkStep,hok,hw,hp,park9,heardH]
        simp [h0]
        by_cases h2:wordAt c h.mine=2
        · simp [h2]
        · by_cases hk:h.code=1 <;> simp [h2,hk]
    | false =>
      have hp3:¬ h.pos=23:=by simpa using hq
      cases hq4:(h.pos == 24) with
      | true =>
        have hp:h.pos=24:=by simpa using hq4
        have hok:stepOk c h 23 25 0=true:=by simp [stepOk,hc,hh,hp,inB]
        cases hk:(h.code != 2) with
        | true =>
          refine .inr ⟨?_,fun v1 v2 lo W o1 o2 _=>parkTouch_24n c h v1 v2 lo W o1 o2 hc _ rfl hx0 hq4 hk⟩
          have hk2:¬ h.code=2:=by simpa using hk
          have hk1:h.code=1:=by have:=hand_codes hh (by omega);omega
          simp [parkStep,hok,hw,hp,hk1]
        | false =>
          refine .inl ⟨(c,resting 2 (cellAt c h.cell).e,true),?_,fun v1 v2 lo W o1 o2 _=>parkTouch_24 c h v1 v2 lo W o1 o2 hc0 hc1 hc _ rfl hx0 hq4 hk⟩
          have hk2:h.code=2:=by simpa using hk
          rw [fin7_done]
          simp [parkStep,hok,hw,hp,hk2]
      | false =>
        have hp4:¬ h.pos=24:=by simpa using hq4
        cases hq5:(h.pos == 25) with
        | true =>
          have hp:h.pos=25:=by simpa using hq5
          have hok:stepOk c h 23 25 0=true:=by simp [stepOk,hc,hh,hp,inB]
          refine .inl ⟨(stateC c h.cell (goneS h),resting 3 0,true),?_,fun v1 v2 lo W o1 o2 _=>parkTouch_25 c h v1 v2 lo W o1 o2 hc0 hc1 hc _ rfl hx0 hq5⟩
          rw [fin7_done]
          simp [parkStep,hok,hw,hp]
        | false =>
          have hp5:¬ h.pos=25:=by simpa using hq5
          refine .inr ⟨?_,fun v1 v2 lo W o1 o2 _=>parkTouch_o c h v1 v2 lo W o1 o2 hc _ rfl hx0 hq hq4 hq5⟩
          have hno:stepOk c h 23 25 0=false:=by
            have:inB h.pos 23 25=false:=by simp [inB];omega
            simp [stepOk,this]
          simp [parkStep,hno]
end Go.Proofs.YtkiingmgpobgnaaGreat
set_option linter.unusedSimpArgs false
set_option linter.unusedVariables false
namespace Go.Proofs.YtkiingmgpobgnaaGreat
open Go.RowKit
set_option linter.unusedSimpArgs false
attribute [local simp] bx_size
attribute [local go_sem ↓] zeroHand zeroChan toLHand toLChan toVHand toVChan storeHand storeChan storeHandC storeChanC
theorem refusedE (w:World):Calls Tryz.prog 42 #[] w fun r w'=>r=.returned (.tuple #[.agg (cvals Ch.zero (.slice none 0 0) (.slice none 0 0)),.agg (hvals Ha.zero),.bool false])∧Below w.heap.size w w':=by
  go_enter Tryz.func42,Tryz.ntmps42
  go_wp2
  refine bodyPost_ret (res_cct Tryz.results42 rfl (ldChan Ch.zero (.slice none 0 0) (.slice none 0 0) (by simp [go_sem])) rfl (ldHand Ha.zero (by simp [go_sem]))) rfl ⟨rfl,by exact zB⟩
theorem res_ccc {P:Program} {fn:Func} {tmps:Array Value} {w:World} {p q u:Nat} {T S U:TypeId} {a a' a2:Addr} {x y z:Value} (h:fn.results=#[.cell p T,.cell q S,.cell u U]) (hp:tmps.getD p undef=.pointer (some a)) (hl:(loadVar T a).run P w=.ok x w) (hp':tmps.getD q undef=.pointer (some a')) (hl':(loadVar S a').run P w=.ok y w) (hp2:tmps.getD u undef=.pointer (some a2)) (hl2:(loadVar U a2).run P w=.ok z w):(results fn tmps).run P w=.ok (.tuple #[x,y,z]) w:=by
  simp only [results,h]
  simp [Sem.run_bind,Result.andThen,asAddr] at *
  simp [hp,hl,hp',hl',hp2,hl2]
theorem ldBool {w:World} {b:Nat} {v:Bool} (h:hp w b=some (.cells #[.bool v] 4)):(loadVar 4 ⟨b,0,none⟩).run Tryz.prog w=.ok (.bool v) w:=by
  have c:=(bO h).1 0
  simp at c
  simp [go_sem,c]
theorem belowTr {lo:Nat} {w W W':World} (h:Below lo w W) (k:Below lo W W'):Below lo w W':=⟨k.os.trans h.os,k.tape.trans h.tape,k.output.trans h.output,Nat.le_trans h.size k.size,fun i hi=>(k.block i hi).trans (h.block i hi)⟩
theorem own_setC {w:World} {lo b i k m:Nat} {e T':TypeId} {u v:Value} {xs:List Value} {y:Array Value} (h:w.ownsRow lo e k u m xs) (hz:hp w b=some (.cells y T')) (hne:e≠T'):(w.setCell ⟨b,i,none⟩ v).ownsRow lo e k u m xs:=h.kept (gS (gR _ _) (.inl rfl)) (.inr fun e2=>own_offs h hz hne b e2 rfl)
theorem belowSet {lo b i:Nat} {w W:World} {v:Value} (h:Below lo w W) (hb:lo≤b):Below lo w (W.setCell ⟨b,i,none⟩ v):=⟨h.os,h.tape,h.output,by simpa [World.setCell] using h.size,fun k hk=>(Below.heap_setCell _ _ _ k (by simp;omega)).trans (h.block k hk)⟩
set_option maxRecDepth 100000 in
set_option maxHeartbeats 2000000 in
/-- The closure where the body has panicked: what was laid is the refusal. -/
theorem catch_yes (b4 b5 b6:Nat) (T:TypeId) (s:Value) (older:List PanicEntry) (w:World) (x4:Array Value) (x5:Array Value) (x6:Value) (z4:hp w b4=some (.cells x4 27)) (s4:x4.size=6) (z5:hp w b5=some (.cells x5 31)) (s5:x5.size=14) (z6:hp w b6=some (.cells #[x6] 4)) :
    CallsD Tryz.prog 41 #[.pointer (some ⟨b4,0,none⟩),.pointer (some ⟨b5,0,none⟩),.pointer (some ⟨b6,0,none⟩)] (.panicking ({ v:=.iface T s,recovered:=false } :: older)) w fun e u' w' =>
      e=.returned (.tuple #[])∧u'=.panicking ({ v:=.iface T s,recovered:=true } :: older)∧hp w' b4=some (.cells (cvals Ch.zero (.slice none 0 0) (.slice none 0 0)) 27)∧hp w' b5=some (.cells (hvals Ha.zero) 31)∧hp w' b6=some (.cells #[.bool false] 4)∧(∀ lo,lo≤b4→lo≤b5→lo≤b6→lo≤w.heap.size→Below lo w w'):=by
  refine callsD_of_wpS Tryz.func41 rfl fun c₀ cs hu=>?_
  apply wpS_seq
  apply wpS_region
  simp [wpOpsS,go_sem,recoverD,hu,Tryz.ntmps41,Exit.thenS]
  refine wpS_cond (t:=true) (by simp [Act.eval,Array.replicate]) ?_
  simp only [if_true]
  refine wpS_of_wp ?_
  simp only [Array.replicate_succ,Array.replicate_zero,List.push_toArray,List.append_toArray,List.nil_append,List.cons_append,List.setIfInBounds_toArray,List.set_cons_zero,List.set_cons_succ]
  have n45:b4≠b5:=by rintro rfl;rw [z4] at z5;simp at z5
  have n46:b4≠b6:=by rintro rfl;rw [z4] at z6;simp at z6
  have n56:b5≠b6:=by rintro rfl;rw [z5] at z6;simp at z6
  go_wp2_with (go_at_call 42;refine (refusedE _).mono ?_;rintro _ w1 ⟨rfl,hE⟩;have z4':=hpS z4 hE;have z5':=hpS z5 hE;have z6':=hpS z6 hE;have k4:okO 6 (hp w1 b4)=true:=(by rw [z4'];simp [okO,s4]);have q5:=hp_far (ys:=cvals Ch.zero (.slice none 0 0) (.slice none 0 0)) z4' z5' (by decide);have k5:okO 14 (hp (setBox w1 b4 (cvals Ch.zero (.slice none 0 0) (.slice none 0 0))) b5)=true:=(by rw [q5];simp [okO,s5]);have q6:=hp_far (ys:=cvals Ch.zero (.slice none 0 0) (.slice none 0 0)) z4' z6' (by decide);have r6:=hp_far (ys:=hvals Ha.zero) q5 q6 (by decide);have r4:=hp_far (ys:=hvals Ha.zero) q5 (hp_set (ys:=cvals Ch.zero (.slice none 0 0) (.slice none 0 0)) z4') (by decide);have r5:=hp_set (ys:=hvals Ha.zero) q5;obtain ⟨c6,f6,l6⟩:=bO r6)
  refine ⟨rfl,_,rfl,_,results_none rfl _ _ _,rfl,rfl,(Below.heap_setCell _ _ _ b4 n46).trans r4,(Below.heap_setCell _ _ _ b5 n56).trans r5,by rw [hp_set_at,r6];rfl,fun lo l4 l5 l6 l=>belowSet (bBx (bBx (show Below lo w w1 from ⟨hE.os,hE.tape,hE.output,hE.size,fun k hk=>hE.block k (Nat.lt_of_lt_of_le hk l)⟩) l4) l5) l6⟩
set_option maxRecDepth 100000 in
/-- The closure where the body has answered: nothing. -/
theorem catch_idle (b4 b5 b6:Nat) (w:World) :
    CallsD Tryz.prog 41 #[.pointer (some ⟨b4,0,none⟩),.pointer (some ⟨b5,0,none⟩),.pointer (some ⟨b6,0,none⟩)] .returning w fun e u' w'=>e=.returned (.tuple #[])∧u'=.returning∧w'=w:=by
  refine callsD_of_wpS Tryz.func41 rfl fun c₀ cs hu=>?_
  apply wpS_seq
  apply wpS_region
  simp [wpOpsS,go_sem,recoverD,hu,Tryz.ntmps41,Exit.thenS]
  refine wpS_cond (t:=false) (by simp [Act.eval,Array.replicate]) ?_
  simp only [Bool.false_eq_true,if_false]
  refine wpS_of_wp (wp_skip ?_)
  cases c₀
  simp_all [bodyPostS,results,Tryz.results41]
set_option maxRecDepth 100000 in
set_option maxHeartbeats 4000000 in
/-- The face where what is within panics: it is refused. -/
theorem pface_no (c:Ch) (h:Ha) (a b:Option Addr) (p q:Nat) (w:World) (h1:Seg w w.heap.size a c.cells.length 3 (cellF c.cells)) (z1:a=none→p=0) (h2:Seg w w.heap.size b c.words.length 1 (intF c.words)) (z2:b=none→q=0)
    (HB:∀ (W:World),Seg W W.heap.size a c.cells.length 3 (cellF c.cells)→(a=none→p=0)→Seg W W.heap.size b c.words.length 1 (intF c.words)→(b=none→q=0)→Calls Tryz.prog 21 #[.func (.func 43) #[] #[],.agg (cvals c (.slice a c.cells.length p) (.slice b c.words.length q)),.agg (hvals h)] W fun e W'=>∃ T s,e=.panicked [{ v:=.iface T s,recovered:=false }]∧Below W.heap.size W W') :
    Calls Tryz.prog 14 #[.agg (cvals c (.slice a c.cells.length p) (.slice b c.words.length q)),.agg (hvals h)] w fun r w'=>StepN w w' nothing r:=by
  have hmf:∀ (fn:Fn) (first cap:Array Value) (w:World),(Instr.makeFunc fn first cap).run Tryz.prog w=.ok (.func fn first cap) w:=fun _ _ _ _=>rfl
  have H1:=Lib.hid h1
  have H2:=Lib.hid h2
  have Z1:=Lib.hid z1
  have Z2:=Lib.hid z2
  have HH:=Lib.hid HB
  clear h1 h2 z1 z2 HB
  go_enter_defers Tryz.func14,Tryz.ntmps14
  go_wp2_with fail
  refine bHit w (by exact zB) fun bb=>?_
  refine (HH.out _ ((H1.out.below bb).more bb.size) Z1.out ((H2.out.below bb).more bb.size) Z2.out).mono ?_
  rintro _ w1 ⟨T,s,rfl,hE⟩
  have hB1:Below w.heap.size w w1:=bT bb hE
  have hs1:=hE.size
  simp at hs1
  have z4:hp w1 (w.heap.size+1+1)=some (.cells (cvals Ch.zero (.slice none 0 0) (.slice none 0 0)) 27):=by rw [hpB hE (by simp)];simp [go_sem]
  have z5:hp w1 (w.heap.size+1+1+1)=some (.cells (hvals Ha.zero) 31):=by rw [hpB hE (by simp)];simp [go_sem]
  have z6:hp w1 (w.heap.size+1+1+1+1)=some (.cells #[.bool false] 4):=by rw [hpB hE (by simp)];simp [go_sem]
  clear hE bb
  go_wp2
  refine leaves_cons (f:=41) (args:=#[.pointer (some ⟨w.heap.size+1+1,0,none⟩),.pointer (some ⟨w.heap.size+1+1+1,0,none⟩),.pointer (some ⟨w.heap.size+1+1+1+1,0,none⟩)]) (by simp) (by simp [go_sem]) ?_
  refine (catch_yes _ _ _ T s [] _ _ _ _ z4 rfl z5 rfl z6).mono ?_
  rintro e u' w2 ⟨rfl,rfl,y4,y5,y6,hlo⟩
  have hB2:Below w.heap.size w w2:=belowTr hB1 (hlo w.heap.size (by omega) (by omega) (by omega) (by omega))
  exact ⟨_,res_ccc Tryz.results14 rfl (ldChan Ch.zero (.slice none 0 0) (.slice none 0 0) y4) rfl (ldHand Ha.zero y5) rfl (ldBool y6),stepR_none _ _ _ _ _,hB2⟩
set_option maxRecDepth 100000 in
set_option maxHeartbeats 4000000 in
/-- The face where what is within answers: it is answered so. -/
theorem pface_yes (x:St) (c:Ch) (h:Ha) (a b:Option Addr) (p q:Nat) (w:World) (h1:Seg w w.heap.size a c.cells.length 3 (cellF c.cells)) (z1:a=none→p=0) (h2:Seg w w.heap.size b c.words.length 1 (intF c.words)) (z2:b=none→q=0)
    (HB:∀ (W:World),Seg W W.heap.size a c.cells.length 3 (cellF c.cells)→(a=none→p=0)→Seg W W.heap.size b c.words.length 1 (intF c.words)→(b=none→q=0)→Calls Tryz.prog 21 #[.func (.func 43) #[] #[],.agg (cvals c (.slice a c.cells.length p) (.slice b c.words.length q)),.agg (hvals h)] W fun e W'=>StepN W W' x e) :
    Calls Tryz.prog 14 #[.agg (cvals c (.slice a c.cells.length p) (.slice b c.words.length q)),.agg (hvals h)] w fun r w'=>StepN w w' x r:=by
  have hmf:∀ (fn:Fn) (first cap:Array Value) (w:World),(Instr.makeFunc fn first cap).run Tryz.prog w=.ok (.func fn first cap) w:=fun _ _ _ _=>rfl
  have H1:=Lib.hid h1
  have H2:=Lib.hid h2
  have Z1:=Lib.hid z1
  have Z2:=Lib.hid z2
  have HH:=Lib.hid HB
  clear h1 h2 z1 z2 HB
  go_enter_defers Tryz.func14,Tryz.ntmps14
  go_wp2_with fail
  generalize hW0:World.alloc _ _=W0
  have hB0:Below w.heap.size w W0:=by rw [← hW0];exact zB
  have hs0:W0.heap.size=w.heap.size+1+1+1+1+1:=by rw [← hW0];simp
  have z4:hp W0 (w.heap.size+1+1)=some (.cells (cvals Ch.zero (.slice none 0 0) (.slice none 0 0)) 27):=by rw [← hW0];simp [go_sem]
  have z5:hp W0 (w.heap.size+1+1+1)=some (.cells (hvals Ha.zero) 31):=by rw [← hW0];simp [go_sem]
  have z6:hp W0 (w.heap.size+1+1+1+1)=some (.cells #[.bool false] 4):=by rw [← hW0];simp [go_sem]
  clear hW0
  refine (HH.out W0 ((H1.out.below hB0).more hB0.size) Z1.out ((H2.out.below hB0).more hB0.size) Z2.out).mono ?_
  rintro _ w1 ⟨⟨y1,y2,rfl,Y1,Y2,F1,F2⟩,hE⟩
  replace z4:=hpS z4 hE
  replace z5:=hpS z5 hE
  replace z6:=hpS z6 hE
  have hB1:Below w.heap.size w w1:=bT hB0 hE
  have hs1:=hE.size
  replace Y1:OCells w1 w.heap.size y1 x.1.cells:=own_lo Y1 (by omega)
  replace Y2:OInts w1 w.heap.size y2 x.1.words:=own_lo Y2 (by omega)
  clear hE
  obtain ⟨xa,xp,ea,_⟩:=Y1.seg
  obtain ⟨xb,xq,eb,_⟩:=Y2.seg
  subst ea eb
  have k4:okO 6 (hp w1 (w.heap.size+1+1))=true:=by rw [z4];rfl
  have q5:=hp_far (ys:=cvals x.1 (.slice xa x.1.cells.length xp) (.slice xb x.1.words.length xq)) z4 z5 (by decide)
  have k5:okO 14 (hp (setBox w1 (w.heap.size+1+1) (cvals x.1 (.slice xa x.1.cells.length xp) (.slice xb x.1.words.length xq))) (w.heap.size+1+1+1))=true:=by rw [q5];rfl
  have q6:=hp_far (ys:=cvals x.1 (.slice xa x.1.cells.length xp) (.slice xb x.1.words.length xq)) z4 z6 (by decide)
  have r4:=hp_far (ys:=hvals x.2.1) q5 (hp_set (ys:=cvals x.1 (.slice xa x.1.cells.length xp) (.slice xb x.1.words.length xq)) z4) (by decide)
  have r5:=hp_set (ys:=hvals x.2.1) q5
  have r6:=hp_far (ys:=hvals x.2.1) q5 q6 (by decide)
  obtain ⟨c6,f6,l6⟩:=bO r6
  go_wp2
  refine leaves_cons (f:=41) (args:=#[.pointer (some ⟨w.heap.size+1+1,0,none⟩),.pointer (some ⟨w.heap.size+1+1+1,0,none⟩),.pointer (some ⟨w.heap.size+1+1+1+1,0,none⟩)]) (by simp) (by simp [go_sem]) ?_
  refine (catch_idle _ _ _ _).mono ?_
  rintro e u' w2 ⟨rfl,rfl,rfl⟩
  exact ⟨_,res_ccc Tryz.results14 rfl (ldChan x.1 _ _ ((Below.heap_setCell _ _ _ _ (by simp)).trans r4)) rfl (ldHand x.2.1 ((Below.heap_setCell _ _ _ _ (by simp)).trans r5)) rfl (ldBool (by rw [hp_set_at,r6];rfl)),⟨_,_,rfl,own_setC (own_far (own_far Y1 z4 (by decide)) q5 (by decide)) r6 (by decide),own_setC (own_far (own_far Y2 z4 (by decide)) q5 (by decide)) r6 (by decide),fun j e=>.inr (Y1.lt j e).1,fun j e=>.inr (Y2.lt j e).1⟩,by exact zB⟩
set_option maxRecDepth 100000 in
set_option maxHeartbeats 8000000 in
/-- Where the touch gives up, so does the asking around it. -/
theorem touched_pan (F:Nat) (c:Ch) (h:Ha) (a b:Option Addr) (p q:Nat) (w:World) (h1:Seg w w.heap.size a c.cells.length 3 (cellF c.cells)) (z1:a=none→p=0) (h2:Seg w w.heap.size b c.words.length 1 (intF c.words)) (z2:b=none→q=0) (hc:chanOk c=true) (hh:handOk h=true) (eg:∀ args w,(callFunc F args).run Tryz.prog w=.ok (.enter F args) w) (HF:∀ (v1 v2:Value) (lo:Nat) (W:World),OCells W lo v1 c.cells→OInts W lo v2 c.words→lo≤W.heap.size→Calls Tryz.prog F #[.agg (cvals c v1 v2),.agg (hvals h)] W fun e W'=>∃ T s,e=.panicked [{ v:=.iface T s,recovered:=false }]∧Below W.heap.size W W') :
    Calls Tryz.prog 21 #[.func (.func F) #[] #[],.agg (cvals c (.slice a c.cells.length p) (.slice b c.words.length q)),.agg (hvals h)] w fun e w'=>∃ T s,e=.panicked [{ v:=.iface T s,recovered:=false }]∧Below w.heap.size w w':=by
  obtain ⟨n1,n2⟩:=chan_len hc
  have l1:c.cells.length≤maxLen:=by unfold maxLen;omega
  have l2:c.words.length≤maxLen:=by unfold maxLen;omega
  have m1:c.cells.length≤1099511627776:=by omega
  have m2:c.words.length≤1099511627776:=by omega
  have H1:=Lib.hid h1
  have H2:=Lib.hid h2
  have Z1:=Lib.hid z1
  have Z2:=Lib.hid z2
  clear h1 h2 z1 z2 n1 n2
  have HFF:=Lib.hid HF
  clear HF
  go_enter Tryz.func21,Tryz.ntmps21
  go_wp2_with fail;refine bHit w (by exact zB) fun bb=>?_;refine (iChanOk_any c a b p q _ ((H1.out.below bb).more bb.size) ((H2.out.below bb).more bb.size) l1 l2).mono ?_;rintro _ w1 ⟨rfl,hbw1⟩;have hCw1:Below w.heap.size w w1:=bT bb hbw1;have hsw1:=hbw1.size;(try simp at hsw1);have zz:=q4 hbw1 (b:=w.heap.size);(try simp [go_sem] at zz);(try clear z_wppp x_wppp f_wppp l_wppp);(try clear z_wpp x_wpp f_wpp l_wpp);(try clear z_wp x_wp f_wp l_wp);(try clear z_w x_w f_w l_w);obtain ⟨z_wppp,z_wpp,z_wp,z_w⟩:=zz;obtain ⟨x_wppp,f_wppp,l_wppp⟩:=bO z_wppp;obtain ⟨x_wpp,f_wpp,l_wpp⟩:=bO z_wpp;obtain ⟨x_wp,f_wp,l_wp⟩:=bO z_wp;obtain ⟨x_w,f_w,l_w⟩:=bO z_w;clear hbw1 bb
  rw [hc]
  go_wp2_with fail;refine bHit w (by exact zB) fun bb=>?_;refine (handOk_any h _).mono ?_;rintro _ w2 ⟨rfl,hbw2⟩;have hCw2:Below w.heap.size w w2:=bT bb hbw2;have hsw2:=hbw2.size;(try simp at hsw2);have zz:=q4 hbw2 (b:=w.heap.size);(first|simp [go_sem,z_wppp,z_wpp,z_wp,z_w,l_w,l_wp,l_wpp,l_wppp] at zz|simp [go_sem] at zz|skip);(try clear z_wppp x_wppp f_wppp l_wppp);(try clear z_wpp x_wpp f_wpp l_wpp);(try clear z_wp x_wp f_wp l_wp);(try clear z_w x_w f_w l_w);obtain ⟨z_wppp,z_wpp,z_wp,z_w⟩:=zz;obtain ⟨x_wppp,f_wppp,l_wppp⟩:=bO z_wppp;obtain ⟨x_wpp,f_wpp,l_wpp⟩:=bO z_wpp;obtain ⟨x_wp,f_wp,l_wp⟩:=bO z_wp;obtain ⟨x_w,f_w,l_w⟩:=bO z_w;clear hbw2 bb
  rw [hh]
  go_upto_region 3 with fail
  refine wp_region_inv [[],[],[1],[],[0,1,2,3],[0,1,2,3,4],[0,1,2,3,4,5],[0,1,2,3,4,5],[0,1,2,3,4,5],[],[],[0,1,2,3,4,5,6,9],[0,1,2,3,4,5,7,10],[0,1,2,3,4,5,8]] [25,26,27,28,29,24,30,31,32,9,10,11] (fun l s wx=>(Below w2.heap.size w2 wx)∧(l 0=true→s 25=.func (.func F) #[] #[])∧(l 1=true→s 26=.agg (cvals c (.slice a c.cells.length p) (.slice b c.words.length q)))∧(l 2=true→s 27=.agg (cvals c (s 1001) (s 1002))∧OCells wx w2.heap.size (s 1001) c.cells∧OInts wx w2.heap.size (s 1002) c.words)∧(l 3=true→s 28=.agg (hvals h))∧(l 4=true→False)) (by kernel_rfl) (by kernel_rfl) (by kernel_rfl) (fun s=>by (simp only [fill,fillA,List.setIfInBounds_toArray,List.set_cons_zero,List.set_cons_succ];rfl)) (fun s=>⟨(Below.refl _ _).drew,fun h=>absurd h Bool.false_ne_true,fun h=>absurd h Bool.false_ne_true,fun h=>absurd h Bool.false_ne_true,fun h=>absurd h Bool.false_ne_true,fun h=>absurd h Bool.false_ne_true⟩) ?_ ?_
  refine ⟨?_,?_,?_,?_,?_,?_,?_,?_,?_,?_,?_,?_,?_,?_,trivial⟩;rotate_left 14
  · intro l s w8 hall hf
    exact (hf.2.2.2.2.2 (hall 4 rfl)).elim
  · intro l s wx hl hd hn hf0 K hK
    have hf:=Lib.hid hf0
    clear hf0
    go_simp
    refine hK.out (upd s 25 (.func (.func F) #[] #[])) _ _ (by simp [upd_at] <;> rfl) ⟨hf.out.1,fun _=>rfl,fun h=>(hf.out.2.2.1 h),fun h=>(hf.out.2.2.2.1 h),fun h=>(hf.out.2.2.2.2.1 h),fun h=>absurd h (by rw [show upd l 0 true 4=l 4 from rfl,hn 4 rfl];exact Bool.false_ne_true)⟩
  · intro l s wx hl hd hn hf0 K hK
    have hf:=Lib.hid hf0
    clear hf0
    have z:=hpS z_w hf.out.1
    go_simp
    refine hK.out (upd s 26 (.agg (cvals c (.slice a c.cells.length p) (.slice b c.words.length q)))) _ _ (by simp [upd_at] <;> rfl) ⟨hf.out.1,fun h=>(hf.out.2.1 h),fun _=>rfl,fun h=>absurd h (by rw [show upd l 1 true 2=l 2 from rfl,hn 2 rfl];exact Bool.false_ne_true),fun h=>(hf.out.2.2.2.2.1 h),fun h=>absurd h (by rw [show upd l 1 true 4=l 4 from rfl,hn 4 rfl];exact Bool.false_ne_true)⟩
  · intro l s wx hl hd hn hf0 K hK
    have hf:=Lib.hid hf0
    clear hf0
    have e1:=(hf.out.2.2.1 (hd 1 rfl))
    go_simp
    go_at_call 56
    refine (iCopied_any c a b p q _ ((H1.out.below (bT hCw2 hf.out.1)).more (Below.size (bT hCw2 hf.out.1))) Z1.out ((H2.out.below (bT hCw2 hf.out.1)).more (Below.size (bT hCw2 hf.out.1))) Z2.out m1 m2).mono ?_
    rintro _ wy ⟨⟨v1,v2,rfl,X1,X2⟩,hE⟩
    refine hK.out (upd (upd (upd s 1001 (v1)) 1002 (v2)) 27 (.agg (cvals c v1 v2))) _ _ (by simp [upd_at,e1] <;> rfl) ⟨bT hf.out.1 hE,fun h=>(hf.out.2.1 h),fun h=>(hf.out.2.2.1 h),fun _=>⟨rfl,own_lo X1 (Below.size hf.out.1),own_lo X2 (Below.size hf.out.1)⟩,fun h=>(hf.out.2.2.2.2.1 h),fun h=>absurd h (by rw [show upd l 2 true 4=l 4 from rfl,hn 4 rfl];exact Bool.false_ne_true)⟩
  · intro l s wx hl hd hn hf0 K hK
    have hf:=Lib.hid hf0
    clear hf0
    have z:=hpS z_wp hf.out.1
    go_simp
    refine hK.out (upd s 28 (.agg (hvals h))) _ _ (by simp [upd_at] <;> rfl) ⟨hf.out.1,fun h=>(hf.out.2.1 h),fun h=>(hf.out.2.2.1 h),fun h=>(hf.out.2.2.2.1 h),fun _=>rfl,fun h=>absurd h (by rw [show upd l 3 true 4=l 4 from rfl,hn 4 rfl];exact Bool.false_ne_true)⟩
  · intro l s wx hl hd hn hf0 K hK
    have hf:=Lib.hid hf0
    clear hf0
    have e0:=(hf.out.2.1 (hd 0 rfl))
    have e3:=(hf.out.2.2.2.2.1 (hd 3 rfl))
    obtain ⟨e2,o1,o2⟩:=(hf.out.2.2.2.1 (hd 2 rfl))
    go_simp
    refine (HFF.out _ _ w2.heap.size _ o1 o2 (Below.size hf.out.1)).mono ?_
    rintro _ wy ⟨T,sv,rfl,hE⟩
    exact ⟨rfl,T,sv,rfl,bT hCw2 (bT hf.out.1 hE)⟩
  · intro l s wx hl hd hn hf0 K hK
    exact (hf0.2.2.2.2.2 (hd 4 rfl)).elim
  · intro l s wx hl hd hn hf0 K hK
    exact (hf0.2.2.2.2.2 (hd 4 rfl)).elim
  · intro l s wx hl hd hn hf0 K hK
    exact (hf0.2.2.2.2.2 (hd 4 rfl)).elim
  · intro l s wx hl hd hn hf0 K hK
    exact (hf0.2.2.2.2.2 (hd 4 rfl)).elim
  · intro l s wx hl hd hn hf0 K hK
    have hf:=Lib.hid hf0
    clear hf0
    go_simp
    refine hK.out (upd s 9 (.pointer (some ⟨wx.heap.size,0,none⟩))) _ _ (by simp [upd_at] <;> rfl) ⟨bT hf.out.1 (belowAlloc _ _),fun h=>(hf.out.2.1 h),fun h=>(hf.out.2.2.1 h),fun h=>(let ⟨e,X1,X2⟩:=(hf.out.2.2.2.1 h);⟨e,own_below X1 (belowAlloc _ _),own_below X2 (belowAlloc _ _)⟩),fun h=>(hf.out.2.2.2.2.1 h),fun h=>(hf.out.2.2.2.2.2 h)⟩
  · intro l s wx hl hd hn hf0 K hK
    have hf:=Lib.hid hf0
    clear hf0
    go_simp
    refine hK.out (upd s 10 (.pointer (some ⟨wx.heap.size,0,none⟩))) _ _ (by simp [upd_at] <;> rfl) ⟨bT hf.out.1 (belowAlloc _ _),fun h=>(hf.out.2.1 h),fun h=>(hf.out.2.2.1 h),fun h=>(let ⟨e,X1,X2⟩:=(hf.out.2.2.2.1 h);⟨e,own_below X1 (belowAlloc _ _),own_below X2 (belowAlloc _ _)⟩),fun h=>(hf.out.2.2.2.2.1 h),fun h=>(hf.out.2.2.2.2.2 h)⟩
  · intro l s wx hl hd hn hf0 K hK
    exact (hf0.2.2.2.2.2 (hd 4 rfl)).elim
  · intro l s wx hl hd hn hf0 K hK
    exact (hf0.2.2.2.2.2 (hd 4 rfl)).elim
  · intro l s wx hl hd hn hf0 K hK
    exact (hf0.2.2.2.2.2 (hd 4 rfl)).elim
theorem parkStepI_any (c:Ch) (h:Ha) (a b:Option Addr) (p q:Nat) (w:World) (h1:Seg w w.heap.size a c.cells.length 3 (cellF c.cells)) (z1:a=none→p=0) (h2:Seg w w.heap.size b c.words.length 1 (intF c.words)) (z2:b=none→q=0) (l1:c.cells.length≤maxLen) (l2:c.words.length≤maxLen) :
    Calls Tryz.prog 14 #[.agg (cvals c (.slice a c.cells.length p) (.slice b c.words.length q)),.agg (hvals h)] w fun r w'=>StepN w w' (parkStep c h) r:=by
  cases hc:chanOk c with
  | false =>
    rw [show parkStep c h=nothing by simp [parkStep,stepOk,hc]]
    exact pface_yes nothing c h a b p q w h1 z1 h2 z2 fun W g1 y1 g2 y2=>touched_no1 _ c h a b p q W g1 y1 g2 y2 l1 l2 hc
  | true =>
    cases hh:handOk h with
    | false =>
      rw [show parkStep c h=nothing by simp [parkStep,stepOk,hh]]
      exact pface_yes nothing c h a b p q w h1 z1 h2 z2 fun W g1 y1 g2 y2=>touched_no2 _ c h a b p q W g1 y1 g2 y2 l1 l2 hc hh
    | true =>
      rcases parkTouch_any c h hc hh with ⟨x,e,HT⟩|⟨e,HT⟩
      · rw [e]
        exact pface_yes (fin7 x) c h a b p q w h1 z1 h2 z2 fun W g1 y1 g2 y2=>touched_via _ x c h a b p q W g1 y1 g2 y2 hc hh (fun args w=>by simp [go_sem]) HT
      · rw [e]
        exact pface_no c h a b p q w h1 z1 h2 z2 fun W g1 y1 g2 y2=>(touched_pan _ c h a b p q W g1 y1 g2 y2 hc hh (fun args w=>by simp [go_sem]) HT)
end Go.Proofs.YtkiingmgpobgnaaGreat
set_option linter.unusedSimpArgs false
set_option linter.unusedVariables false
namespace Go.Proofs.YtkiingmgpobgnaaGreat
open Go.RowKit
set_option linter.unusedSimpArgs false
attribute [local simp] bx_size
attribute [local go_sem ↓] zeroHand zeroChan toLHand toLChan toVHand toVChan storeHand storeChan storeHandC storeChanC
attribute [local go_sem ↓] eqHandV
theorem has_no (l:List Int) (x:Int) (v:Value) (lo:Nat) (w:World) (h:NewI w lo v l) (hx:x ∉ l) (hm:l.length≤maxLen) :
    Calls Tryz.prog 17 #[v,.int .i64 x] w fun r w'=>r=.returned (.bool false)∧Below w.heap.size w w':=by
  obtain ⟨a,cap,rfl,hS⟩:=h.seg
  have HS:=Lib.hid hS
  have HX:=Lib.hid hx
  unfold maxLen at hm
  clear hS h hx
  go_enter Tryz.func17,Tryz.ntmps17
  go_wp2
  go_loopw [5] (fun i wr=>∃ m:Nat,m≤l.length∧i=.int .i64 m∧Below w.heap.size w wr) (fun i _=>l.length - (intOf i).toNat)
  case atStart=>exact ⟨0,Nat.zero_le _,rfl,Below.refl _ _⟩
  case round =>
    obtain ⟨m,hk,rfl,hB⟩:=hrel
    by_cases hlt:m<l.length
    · obtain h0'|⟨b,o,rfl,hb,hc⟩:=HS.out
      · omega
      have c0:=(hB.cell (p:=⟨b,o+m*1+0,none⟩) hb).trans (hc m 0 hlt (by omega))
      have hne:¬ l.getD m 0=x:=by
        intro e
        apply HX.out
        rw [← e]
        simp [List.getD,hlt]
      simp only [intF,Nat.add_zero,Nat.mul_one] at c0
      clear hc
      generalize l.getD m 0=y at *
      have hk0:(0:Int)≤(m:Int):=by omega
      have hk1:(m:Int)<(l.length:Int):=by omega
      go_wp2
      go_roundw
      case rel=>exact ⟨m+1,by omega,by go_num,by exact zB⟩
      case measure=>simp [intOf];omega
    · have:m=l.length:=by omega
      subst this
      go_wp2
      go_ret
      exact ⟨rfl,hB⟩
theorem wait_max (c:Ch) (st:Int):(waitingIn c st).length≤c.cells.length:=by
  have h:∀ (cs:List C3) (k:Nat),(atFrom st k cs).length≤cs.length:=by
    intro cs
    induction cs with
    | nil=>intro k;simp [atFrom]
    | cons c cs ih=>intro k;unfold atFrom;have:=ih (k+1);split <;> simp <;> omega
  unfold waitingIn
  split
  · exact h _ _
  · simp
theorem pWordOf_any (c:Ch) (v:Int) (a b:Option Addr) (p q:Nat) (w:World) (h1:Seg w w.heap.size a c.cells.length 3 (cellF c.cells)) (h2:Seg w w.heap.size b c.words.length 1 (intF c.words)) (m1:c.cells.length≤maxLen) (m2:c.words.length≤maxLen) :
    Calls Tryz.prog 16 #[.agg (cvals c (.slice a c.cells.length p) (.slice b c.words.length q)),.int .i64 v] w fun r w'=>r=.returned (.int .i64 (wordOf c v))∧Below w.heap.size w w':=wordOf_any c v a b p q w h1 h2 m1 m2
theorem pWaitingIn_any (c:Ch) (st:Int) (a b:Option Addr) (p q:Nat) (w:World) (h1:Seg w w.heap.size a c.cells.length 3 (cellF c.cells)) (h2:Seg w w.heap.size b c.words.length 1 (intF c.words)) (m1:c.cells.length≤maxLen) (m2:c.words.length≤maxLen) :
    Calls Tryz.prog 18 #[.agg (cvals c (.slice a c.cells.length p) (.slice b c.words.length q)),.int .i64 st] w fun r w'=>(∃ v,r=.returned v∧NewI w' w.heap.size v (waitingIn c st))∧Below w.heap.size w w':=waitingIn_any c st a b p q w h1 h2 m1 m2
theorem wLike_any (c:Ch) (a b a' b':Option Addr) (p q p' q':Nat) (w:World) (h1:Seg w w.heap.size a c.cells.length 3 (cellF c.cells)) (h2:Seg w w.heap.size b c.words.length 1 (intF c.words)) (h3:Seg w w.heap.size a' c.cells.length 3 (cellF c.cells)) (h4:Seg w w.heap.size b' c.words.length 1 (intF c.words)) (m1:c.cells.length≤maxLen) (m2:c.words.length≤maxLen) :
    Calls Tryz.prog 9 #[.agg (cvals c (.slice a c.cells.length p) (.slice b c.words.length q)),.agg (cvals c (.slice a' c.cells.length p') (.slice b' c.words.length q'))] w fun r w'=>r=.returned (.bool true)∧Below w.heap.size w w':=likeChan_any c a b a' b' p q p' q' w h1 h2 h3 h4 m1 m2
set_option maxRecDepth 100000 in
set_option maxHeartbeats 8000000 in
theorem fnParks_any (n cap:Nat) (a:Option Addr) (bs:Nat→Int) (w:World) (hbs:∀ j,0≤bs j∧bs j≤255) (h:Seg w w.heap.size a n 1 (fun j _=>.int .u8 (bs j))) :
    Calls Tryz.prog 4 #[.slice a n cap] w fun r w'=>r=.returned (.bool true)∧Below w.heap.size w w':=by
  have HB:=Lib.hid hbs
  have HS:=Lib.hid h
  clear hbs h
  by_cases hn:(4096:Int)<(n:Int)
  · go_enter Tryz.func4,Tryz.ntmps4
    go_wp2_with fail
    refine (big_any _ _ _ _).mono ?_
    rintro _ _ ⟨rfl,rfl⟩
    go_wp2
    go_ret
    exact ⟨rfl,Below.refl _ _⟩
  · have HC:Hid (Code w w.heap.size a n bs):=⟨by omega,HB.out,HS.out⟩
    clear HB HS
    go_enter Tryz.func4,Tryz.ntmps4
    go_wp2_with fail
    refine (big_any _ _ _ _).mono ?_
    rintro _ _ ⟨rfl,rfl⟩
    go_wp2_with fail
    refine (drawParkStep_any n cap a bs _ HC.out).mono ?_
    rintro _ w1 ⟨⟨c,hh,v1,v2,rfl,o1,o2,hl1,hl2⟩,hbw1⟩
    have hBw1:Below w.heap.size w w1:=bT (by exact zB) hbw1
    have hsw1:=hbw1.size
    obtain ⟨e1,p1,rfl,G1⟩:=o1.seg
    obtain ⟨e2,p2,rfl,G2⟩:=o2.seg
    have Z1:=Lib.hid (own_zcap o1)
    have Z2:=Lib.hid (own_zcap o2)
    have S1:=Lib.hid G1
    have S2:=Lib.hid G2
    clear o1 o2 G1 G2
    have l1:c.cells.length≤maxLen:=by unfold maxLen;omega
    have l2:c.words.length≤maxLen:=by unfold maxLen;omega
    have q1:c.cells.length≤1048576:=by omega
    have q2:c.words.length≤1048576:=by omega
    have KT:=Lib.hid (touch_park c hh)
    have cc:c.cells.length≤1048576:=q1
    have PI:=Lib.hid fun a b p q W x1 x2 x3 x4=>parkStepI_any c hh a b p q W x1 x2 x3 x4 l1 l2
    have PS:=Lib.hid fun a b p q W x1 x2 x3 x4=>sParkStep_any c hh a b p q W x1 x2 x3 x4
    have KW:=park_wait c hh
    have KG:=park_gone c hh
    generalize parkStep c hh=x at *
    obtain ⟨c2,h2,ok⟩:=x
    replace KW:=Lib.hid KW
    replace KG:=Lib.hid KG
    clear hl1 hl2 hn
    go_wp2_with fail
    refine (PI.out _ _ _ _ _ (((S1).out.below (by exact zB)).more (by (try simp) <;> omega)) Z1.out (((S2).out.below (by exact zB)).more (by (try simp) <;> omega)) Z2.out).mono ?_
    rintro _ w2 ⟨⟨y1,y2,rfl,oY1,oY2,_,_⟩,hbw2⟩
    have hBw2:Below w.heap.size w w2:=bT (by exact zB) hbw2
    have hsw2:=hbw2.size;(try (simp at hsw2));have zz:=hQ hbw2 (b:=w1.heap.size);(first|(simp [go_sem,z_w1,l_w1] at zz)|(simp [go_sem] at zz));(try clear x_w1 f_w1);(try clear z_w1);have z_w1:=zz;clear zz;(try clear l_w1);obtain ⟨x_w1,f_w1,l_w1⟩:=bO z_w1;have zz:=hQ hbw2 (b:=w1.heap.size+1);(first|(simp [go_sem,z_w1p,l_w1p] at zz)|(simp [go_sem] at zz));(try clear x_w1p f_w1p);(try clear z_w1p);have z_w1p:=zz;clear zz;(try clear l_w1p);obtain ⟨x_w1p,f_w1p,l_w1p⟩:=bO z_w1p
    have kw1w2:w1.heap.size<w2.heap.size:=by omega
    have jw1w2:w1.heap.size<w2.heap.size+1:=by omega
    have kw1pw2:w1.heap.size+1<w2.heap.size:=by omega
    have jw1pw2:w1.heap.size+1<w2.heap.size+1:=by omega
    obtain ⟨ya,yp,rfl,GY1⟩:=oY1.seg
    obtain ⟨yb,yq,rfl,GY2⟩:=oY2.seg
    have M1:=own_max oY1
    have M2:=own_max oY2
    have SY1:=Lib.hid GY1
    have SY2:=Lib.hid GY2
    clear oY1 oY2 GY1 GY2
    have hK2:Below w1.heap.size w1 w2:=bT (by exact zB) hbw2
    clear hbw2
    go_wp2_with fail
    refine (PS.out _ _ _ _ _ (((S1).out.below (by exact zB)).more (by (try simp) <;> omega)) Z1.out (((S2).out.below (by exact zB)).more (by (try simp) <;> omega)) Z2.out).mono ?_
    rintro _ w3 ⟨⟨u1,u2,rfl,oU1,oU2,_,_⟩,hbw3⟩
    have hBw3:Below w.heap.size w w3:=bT (by exact zB) hbw3
    have hsw3:=hbw3.size;(try (simp at hsw3));have zz:=hQ hbw3 (b:=w1.heap.size);(first|(simp [go_sem,z_w1,l_w1,kw1w2,jw1w2,kw1pw2,jw1pw2] at zz)|(simp [go_sem,kw1w2,jw1w2,kw1pw2,jw1pw2] at zz));(try clear x_w1 f_w1);(try clear z_w1);have z_w1:=zz;clear zz;(try clear l_w1);obtain ⟨x_w1,f_w1,l_w1⟩:=bO z_w1;have zz:=hQ hbw3 (b:=w1.heap.size+1);(first|(simp [go_sem,z_w1p,l_w1p,kw1w2,jw1w2,kw1pw2,jw1pw2] at zz)|(simp [go_sem,kw1w2,jw1w2,kw1pw2,jw1pw2] at zz));(try clear x_w1p f_w1p);(try clear z_w1p);have z_w1p:=zz;clear zz;(try clear l_w1p);obtain ⟨x_w1p,f_w1p,l_w1p⟩:=bO z_w1p;have zz:=hQ hbw3 (b:=w2.heap.size);(first|(simp [go_sem,z_w2,l_w2,kw1w2,jw1w2,kw1pw2,jw1pw2] at zz)|(simp [go_sem,kw1w2,jw1w2,kw1pw2,jw1pw2] at zz));(try clear x_w2 f_w2);(try clear z_w2);have z_w2:=zz;clear zz;(try clear l_w2);obtain ⟨x_w2,f_w2,l_w2⟩:=bO z_w2;have zz:=hQ hbw3 (b:=w2.heap.size+1);(first|(simp [go_sem,z_w2p,l_w2p,kw1w2,jw1w2,kw1pw2,jw1pw2] at zz)|(simp [go_sem,kw1w2,jw1w2,kw1pw2,jw1pw2] at zz));(try clear x_w2p f_w2p);(try clear z_w2p);have z_w2p:=zz;clear zz;(try clear l_w2p);obtain ⟨x_w2p,f_w2p,l_w2p⟩:=bO z_w2p
    have kw1w3:w1.heap.size<w3.heap.size:=by omega
    have jw1w3:w1.heap.size<w3.heap.size+1:=by omega
    have kw1pw3:w1.heap.size+1<w3.heap.size:=by omega
    have jw1pw3:w1.heap.size+1<w3.heap.size+1:=by omega
    have kw2w3:w2.heap.size<w3.heap.size:=by omega
    have jw2w3:w2.heap.size<w3.heap.size+1:=by omega
    have kw2pw3:w2.heap.size+1<w3.heap.size:=by omega
    have jw2pw3:w2.heap.size+1<w3.heap.size+1:=by omega
    obtain ⟨ua,up,rfl,GU1⟩:=oU1.seg
    obtain ⟨ub,uq,rfl,GU2⟩:=oU2.seg
    have SU1:=Lib.hid GU1
    have SU2:=Lib.hid GU2
    clear oU1 oU2 GU1 GU2
    have hK3:Below w1.heap.size w1 w3:=bT (by exact zB) hbw3
    have hJ3:Below w2.heap.size w2 w3:=bT (by exact zB) hbw3
    clear hbw3
    go_wp2_with fail
    refine (wLike_any c2 ya yb ua ub yp yq up uq _ (((SY1).out.below (by exact zB)).more (by (try simp) <;> omega)) (((SY2).out.below (by exact zB)).more (by (try simp) <;> omega)) (((SU1).out.below (by exact zB)).more (by (try simp) <;> omega)) (((SU2).out.below (by exact zB)).more (by (try simp) <;> omega)) M1 M2).mono ?_
    rintro _ w4 ⟨rfl,hbw4⟩
    have hBw4:Below w.heap.size w w4:=bT (by exact zB) hbw4
    have hsw4:=hbw4.size;(try (simp at hsw4));have zz:=hQ hbw4 (b:=w1.heap.size);(first|(simp [go_sem,z_w1,l_w1,kw1w3,jw1w3,kw1pw3,jw1pw3,kw2w3,jw2w3,kw2pw3,jw2pw3] at zz)|(simp [go_sem,kw1w3,jw1w3,kw1pw3,jw1pw3,kw2w3,jw2w3,kw2pw3,jw2pw3] at zz));(try clear x_w1 f_w1);(try clear z_w1);have z_w1:=zz;clear zz;(try clear l_w1);obtain ⟨x_w1,f_w1,l_w1⟩:=bO z_w1;have zz:=hQ hbw4 (b:=w1.heap.size+1);(first|(simp [go_sem,z_w1p,l_w1p,kw1w3,jw1w3,kw1pw3,jw1pw3,kw2w3,jw2w3,kw2pw3,jw2pw3] at zz)|(simp [go_sem,kw1w3,jw1w3,kw1pw3,jw1pw3,kw2w3,jw2w3,kw2pw3,jw2pw3] at zz));(try clear x_w1p f_w1p);(try clear z_w1p);have z_w1p:=zz;clear zz;(try clear l_w1p);obtain ⟨x_w1p,f_w1p,l_w1p⟩:=bO z_w1p;have zz:=hQ hbw4 (b:=w2.heap.size);(first|(simp [go_sem,z_w2,l_w2,kw1w3,jw1w3,kw1pw3,jw1pw3,kw2w3,jw2w3,kw2pw3,jw2pw3] at zz)|(simp [go_sem,kw1w3,jw1w3,kw1pw3,jw1pw3,kw2w3,jw2w3,kw2pw3,jw2pw3] at zz));(try clear x_w2 f_w2);(try clear z_w2);have z_w2:=zz;clear zz;(try clear l_w2);obtain ⟨x_w2,f_w2,l_w2⟩:=bO z_w2;have zz:=hQ hbw4 (b:=w2.heap.size+1);(first|(simp [go_sem,z_w2p,l_w2p,kw1w3,jw1w3,kw1pw3,jw1pw3,kw2w3,jw2w3,kw2pw3,jw2pw3] at zz)|(simp [go_sem,kw1w3,jw1w3,kw1pw3,jw1pw3,kw2w3,jw2w3,kw2pw3,jw2pw3] at zz));(try clear x_w2p f_w2p);(try clear z_w2p);have z_w2p:=zz;clear zz;(try clear l_w2p);obtain ⟨x_w2p,f_w2p,l_w2p⟩:=bO z_w2p;have zz:=hQ hbw4 (b:=w3.heap.size);(first|(simp [go_sem,z_w3,l_w3,kw1w3,jw1w3,kw1pw3,jw1pw3,kw2w3,jw2w3,kw2pw3,jw2pw3] at zz)|(simp [go_sem,kw1w3,jw1w3,kw1pw3,jw1pw3,kw2w3,jw2w3,kw2pw3,jw2pw3] at zz));(try clear x_w3 f_w3);(try clear z_w3);have z_w3:=zz;clear zz;(try clear l_w3);obtain ⟨x_w3,f_w3,l_w3⟩:=bO z_w3;have zz:=hQ hbw4 (b:=w3.heap.size+1);(first|(simp [go_sem,z_w3p,l_w3p,kw1w3,jw1w3,kw1pw3,jw1pw3,kw2w3,jw2w3,kw2pw3,jw2pw3] at zz)|(simp [go_sem,kw1w3,jw1w3,kw1pw3,jw1pw3,kw2w3,jw2w3,kw2pw3,jw2pw3] at zz));(try clear x_w3p f_w3p);(try clear z_w3p);have z_w3p:=zz;clear zz;(try clear l_w3p);obtain ⟨x_w3p,f_w3p,l_w3p⟩:=bO z_w3p
    have kw1w4:w1.heap.size<w4.heap.size:=by omega
    have jw1w4:w1.heap.size<w4.heap.size+1:=by omega
    have kw1pw4:w1.heap.size+1<w4.heap.size:=by omega
    have jw1pw4:w1.heap.size+1<w4.heap.size+1:=by omega
    have kw2w4:w2.heap.size<w4.heap.size:=by omega
    have jw2w4:w2.heap.size<w4.heap.size+1:=by omega
    have kw2pw4:w2.heap.size+1<w4.heap.size:=by omega
    have jw2pw4:w2.heap.size+1<w4.heap.size+1:=by omega
    have kw3w4:w3.heap.size<w4.heap.size:=by omega
    have jw3w4:w3.heap.size<w4.heap.size+1:=by omega
    have kw3pw4:w3.heap.size+1<w4.heap.size:=by omega
    have jw3pw4:w3.heap.size+1<w4.heap.size+1:=by omega
    have hK4:Below w1.heap.size w1 w4:=bT (by exact zB) hbw4
    have hJ4:Below w2.heap.size w2 w4:=bT (by exact zB) hbw4
    clear hbw4
    have hE:eqHa h2 h2=true:=eqHa_self h2
    cases ok with
    | false =>
      have kw:=KW.out rfl
      try dsimp only at kw
      rcases kw with k0|⟨kc,k1,e1',e2'⟩
      · go_wp2
        go_ret
        exact ⟨rfl,by exact zB⟩
      · subst e1' e2'
        have knz:¬ (c2.cells=[]):=fun e=>by have kl:=(chan_40 kc).1;rw [e] at kl;cases kl
        go_wp2_with fail
        refine (pWordOf_any c2 h2.mine e1 e2 p1 p2 _ (((S1).out.below (by exact zB)).more (by (try simp) <;> omega)) (((S2).out.below (by exact zB)).more (by (try simp) <;> omega)) l1 l2).mono ?_
        rintro _ w5 ⟨rfl,hbw5⟩
        have hBw5:Below w.heap.size w w5:=bT (by exact zB) hbw5
        have hsw5:=hbw5.size;(try (simp at hsw5));have zz:=hQ hbw5 (b:=w1.heap.size);(first|(simp [go_sem,z_w1,l_w1,kw1w4,jw1w4,kw1pw4,jw1pw4,kw2w4,jw2w4,kw2pw4,jw2pw4,kw3w4,jw3w4,kw3pw4,jw3pw4] at zz)|(simp [go_sem,kw1w4,jw1w4,kw1pw4,jw1pw4,kw2w4,jw2w4,kw2pw4,jw2pw4,kw3w4,jw3w4,kw3pw4,jw3pw4] at zz));(try clear x_w1 f_w1);(try clear z_w1);have z_w1:=zz;clear zz;(try clear l_w1);obtain ⟨x_w1,f_w1,l_w1⟩:=bO z_w1;have zz:=hQ hbw5 (b:=w1.heap.size+1);(first|(simp [go_sem,z_w1p,l_w1p,kw1w4,jw1w4,kw1pw4,jw1pw4,kw2w4,jw2w4,kw2pw4,jw2pw4,kw3w4,jw3w4,kw3pw4,jw3pw4] at zz)|(simp [go_sem,kw1w4,jw1w4,kw1pw4,jw1pw4,kw2w4,jw2w4,kw2pw4,jw2pw4,kw3w4,jw3w4,kw3pw4,jw3pw4] at zz));(try clear x_w1p f_w1p);(try clear z_w1p);have z_w1p:=zz;clear zz;(try clear l_w1p);obtain ⟨x_w1p,f_w1p,l_w1p⟩:=bO z_w1p;have zz:=hQ hbw5 (b:=w2.heap.size);(first|(simp [go_sem,z_w2,l_w2,kw1w4,jw1w4,kw1pw4,jw1pw4,kw2w4,jw2w4,kw2pw4,jw2pw4,kw3w4,jw3w4,kw3pw4,jw3pw4] at zz)|(simp [go_sem,kw1w4,jw1w4,kw1pw4,jw1pw4,kw2w4,jw2w4,kw2pw4,jw2pw4,kw3w4,jw3w4,kw3pw4,jw3pw4] at zz));(try clear x_w2 f_w2);(try clear z_w2);have z_w2:=zz;clear zz;(try clear l_w2);obtain ⟨x_w2,f_w2,l_w2⟩:=bO z_w2;have zz:=hQ hbw5 (b:=w2.heap.size+1);(first|(simp [go_sem,z_w2p,l_w2p,kw1w4,jw1w4,kw1pw4,jw1pw4,kw2w4,jw2w4,kw2pw4,jw2pw4,kw3w4,jw3w4,kw3pw4,jw3pw4] at zz)|(simp [go_sem,kw1w4,jw1w4,kw1pw4,jw1pw4,kw2w4,jw2w4,kw2pw4,jw2pw4,kw3w4,jw3w4,kw3pw4,jw3pw4] at zz));(try clear x_w2p f_w2p);(try clear z_w2p);have z_w2p:=zz;clear zz;(try clear l_w2p);obtain ⟨x_w2p,f_w2p,l_w2p⟩:=bO z_w2p;have zz:=hQ hbw5 (b:=w3.heap.size);(first|(simp [go_sem,z_w3,l_w3,kw1w4,jw1w4,kw1pw4,jw1pw4,kw2w4,jw2w4,kw2pw4,jw2pw4,kw3w4,jw3w4,kw3pw4,jw3pw4] at zz)|(simp [go_sem,kw1w4,jw1w4,kw1pw4,jw1pw4,kw2w4,jw2w4,kw2pw4,jw2pw4,kw3w4,jw3w4,kw3pw4,jw3pw4] at zz));(try clear x_w3 f_w3);(try clear z_w3);have z_w3:=zz;clear zz;(try clear l_w3);obtain ⟨x_w3,f_w3,l_w3⟩:=bO z_w3;have zz:=hQ hbw5 (b:=w3.heap.size+1);(first|(simp [go_sem,z_w3p,l_w3p,kw1w4,jw1w4,kw1pw4,jw1pw4,kw2w4,jw2w4,kw2pw4,jw2pw4,kw3w4,jw3w4,kw3pw4,jw3pw4] at zz)|(simp [go_sem,kw1w4,jw1w4,kw1pw4,jw1pw4,kw2w4,jw2w4,kw2pw4,jw2pw4,kw3w4,jw3w4,kw3pw4,jw3pw4] at zz));(try clear x_w3p f_w3p);(try clear z_w3p);have z_w3p:=zz;clear zz;(try clear l_w3p);obtain ⟨x_w3p,f_w3p,l_w3p⟩:=bO z_w3p
        have kw1w5:w1.heap.size<w5.heap.size:=by omega
        have jw1w5:w1.heap.size<w5.heap.size+1:=by omega
        have kw1pw5:w1.heap.size+1<w5.heap.size:=by omega
        have jw1pw5:w1.heap.size+1<w5.heap.size+1:=by omega
        have kw2w5:w2.heap.size<w5.heap.size:=by omega
        have jw2w5:w2.heap.size<w5.heap.size+1:=by omega
        have kw2pw5:w2.heap.size+1<w5.heap.size:=by omega
        have jw2pw5:w2.heap.size+1<w5.heap.size+1:=by omega
        have kw3w5:w3.heap.size<w5.heap.size:=by omega
        have jw3w5:w3.heap.size<w5.heap.size+1:=by omega
        have kw3pw5:w3.heap.size+1<w5.heap.size:=by omega
        have jw3pw5:w3.heap.size+1<w5.heap.size+1:=by omega
        have hK5:Below w1.heap.size w1 w5:=bT (by exact zB) hbw5
        have hJ5:Below w2.heap.size w2 w5:=bT (by exact zB) hbw5
        clear hbw5
        rw [k1]
        go_wp2_with fail
        refine (wLike_any c2 ya yb e1 e2 yp yq p1 p2 _ (((SY1).out.below (by exact zB)).more (by (try simp) <;> omega)) (((SY2).out.below (by exact zB)).more (by (try simp) <;> omega)) (((S1).out.below (by exact zB)).more (by (try simp) <;> omega)) (((S2).out.below (by exact zB)).more (by (try simp) <;> omega)) l1 l2).mono ?_
        rintro _ w6 ⟨rfl,hbw6⟩
        have hBw6:Below w.heap.size w w6:=bT (by exact zB) hbw6
        have hsw6:=hbw6.size;(try (simp at hsw6));have zz:=hQ hbw6 (b:=w1.heap.size);(first|(simp [go_sem,z_w1,l_w1,kw1w5,jw1w5,kw1pw5,jw1pw5,kw2w5,jw2w5,kw2pw5,jw2pw5,kw3w5,jw3w5,kw3pw5,jw3pw5] at zz)|(simp [go_sem,kw1w5,jw1w5,kw1pw5,jw1pw5,kw2w5,jw2w5,kw2pw5,jw2pw5,kw3w5,jw3w5,kw3pw5,jw3pw5] at zz));(try clear x_w1 f_w1);(try clear z_w1);have z_w1:=zz;clear zz;(try clear l_w1);obtain ⟨x_w1,f_w1,l_w1⟩:=bO z_w1;have zz:=hQ hbw6 (b:=w1.heap.size+1);(first|(simp [go_sem,z_w1p,l_w1p,kw1w5,jw1w5,kw1pw5,jw1pw5,kw2w5,jw2w5,kw2pw5,jw2pw5,kw3w5,jw3w5,kw3pw5,jw3pw5] at zz)|(simp [go_sem,kw1w5,jw1w5,kw1pw5,jw1pw5,kw2w5,jw2w5,kw2pw5,jw2pw5,kw3w5,jw3w5,kw3pw5,jw3pw5] at zz));(try clear x_w1p f_w1p);(try clear z_w1p);have z_w1p:=zz;clear zz;(try clear l_w1p);obtain ⟨x_w1p,f_w1p,l_w1p⟩:=bO z_w1p;have zz:=hQ hbw6 (b:=w2.heap.size);(first|(simp [go_sem,z_w2,l_w2,kw1w5,jw1w5,kw1pw5,jw1pw5,kw2w5,jw2w5,kw2pw5,jw2pw5,kw3w5,jw3w5,kw3pw5,jw3pw5] at zz)|(simp [go_sem,kw1w5,jw1w5,kw1pw5,jw1pw5,kw2w5,jw2w5,kw2pw5,jw2pw5,kw3w5,jw3w5,kw3pw5,jw3pw5] at zz));(try clear x_w2 f_w2);(try clear z_w2);have z_w2:=zz;clear zz;(try clear l_w2);obtain ⟨x_w2,f_w2,l_w2⟩:=bO z_w2;have zz:=hQ hbw6 (b:=w2.heap.size+1);(first|(simp [go_sem,z_w2p,l_w2p,kw1w5,jw1w5,kw1pw5,jw1pw5,kw2w5,jw2w5,kw2pw5,jw2pw5,kw3w5,jw3w5,kw3pw5,jw3pw5] at zz)|(simp [go_sem,kw1w5,jw1w5,kw1pw5,jw1pw5,kw2w5,jw2w5,kw2pw5,jw2pw5,kw3w5,jw3w5,kw3pw5,jw3pw5] at zz));(try clear x_w2p f_w2p);(try clear z_w2p);have z_w2p:=zz;clear zz;(try clear l_w2p);obtain ⟨x_w2p,f_w2p,l_w2p⟩:=bO z_w2p;have zz:=hQ hbw6 (b:=w3.heap.size);(first|(simp [go_sem,z_w3,l_w3,kw1w5,jw1w5,kw1pw5,jw1pw5,kw2w5,jw2w5,kw2pw5,jw2pw5,kw3w5,jw3w5,kw3pw5,jw3pw5] at zz)|(simp [go_sem,kw1w5,jw1w5,kw1pw5,jw1pw5,kw2w5,jw2w5,kw2pw5,jw2pw5,kw3w5,jw3w5,kw3pw5,jw3pw5] at zz));(try clear x_w3 f_w3);(try clear z_w3);have z_w3:=zz;clear zz;(try clear l_w3);obtain ⟨x_w3,f_w3,l_w3⟩:=bO z_w3;have zz:=hQ hbw6 (b:=w3.heap.size+1);(first|(simp [go_sem,z_w3p,l_w3p,kw1w5,jw1w5,kw1pw5,jw1pw5,kw2w5,jw2w5,kw2pw5,jw2pw5,kw3w5,jw3w5,kw3pw5,jw3pw5] at zz)|(simp [go_sem,kw1w5,jw1w5,kw1pw5,jw1pw5,kw2w5,jw2w5,kw2pw5,jw2pw5,kw3w5,jw3w5,kw3pw5,jw3pw5] at zz));(try clear x_w3p f_w3p);(try clear z_w3p);have z_w3p:=zz;clear zz;(try clear l_w3p);obtain ⟨x_w3p,f_w3p,l_w3p⟩:=bO z_w3p
        have kw1w6:w1.heap.size<w6.heap.size:=by omega
        have jw1w6:w1.heap.size<w6.heap.size+1:=by omega
        have kw1pw6:w1.heap.size+1<w6.heap.size:=by omega
        have jw1pw6:w1.heap.size+1<w6.heap.size+1:=by omega
        have kw2w6:w2.heap.size<w6.heap.size:=by omega
        have jw2w6:w2.heap.size<w6.heap.size+1:=by omega
        have kw2pw6:w2.heap.size+1<w6.heap.size:=by omega
        have jw2pw6:w2.heap.size+1<w6.heap.size+1:=by omega
        have kw3w6:w3.heap.size<w6.heap.size:=by omega
        have jw3w6:w3.heap.size<w6.heap.size+1:=by omega
        have kw3pw6:w3.heap.size+1<w6.heap.size:=by omega
        have jw3pw6:w3.heap.size+1<w6.heap.size+1:=by omega
        have hK6:Below w1.heap.size w1 w6:=bT (by exact zB) hbw6
        have hJ6:Below w2.heap.size w2 w6:=bT (by exact zB) hbw6
        clear hbw6
        go_wp2
        go_ret
        exact ⟨rfl,by exact zB⟩
    | true =>
      obtain ⟨k1,k2,k3,_,_⟩:=KT.out rfl
      dsimp only at k1 k2 k3
      have q3:c2.cells.length≤1048576:=by have:=(chan_len k1).1;omega
      have q4:c2.words.length≤1048576:=by have:=(chan_len k1).2;omega
      have k4:((touchedN c c2:Nat):Int)≤1:=by omega
      clear k3
      by_cases hrp:h2.reply=3∧h2.pos=0
      · obtain ⟨hr,hp⟩:=hrp
        have g3:=KG.out rfl hr hp 3 (.inl rfl)
        have g4:=KG.out rfl hr hp 4 (.inr rfl)
        try dsimp only at g3 g4
        have wm3:(waitingIn c2 3).length≤maxLen:=Nat.le_trans (wait_max c2 3) (by unfold maxLen;omega)
        have wm4:(waitingIn c2 4).length≤maxLen:=Nat.le_trans (wait_max c2 4) (by unfold maxLen;omega)
        go_upto_region 11 with fail
        refine wp_region_inv [[],[0],[],[2],[0,1,2,3],[0,1,2,3,4],[0,1,2,3,4,5],[0,1,2,3,4,5,6],[0,1,2,3,4,5,6,7],[0,1,2,3,4,5,6],[0,1,2,3,4,5,6,9],[0,1,2,3,4,5,6,7,8,9,10],[0,1,2,3,4,5,6,7,8,9,10,11],[0,1,2,3,4,5,6,7,8,9,10,11,12],[0,1,2,3,4,5,6,7,8,9,10,11,12,13]] [77,78,79,80,81,82,83,84,85,86,87,88,89,90,2] (fun l s wx=>(Below w4.heap.size w4 wx)∧(l 0=true→s 77=.agg (cvals c2 (.slice ya c2.cells.length yp) (.slice yb c2.words.length yq)))∧(l 1=true→NewI wx 0 (s 78) (waitingIn c2 3))∧(l 2=true→s 79=.pointer (some ⟨w1.heap.size+1,3,none⟩))∧(l 3=true→s 80=.int .i64 hh.cell)∧(l 4=true→s 81=.bool false)∧(l 5=true→s 82=.bool true)∧(l 6=true→s 83=.bool true)∧(l 7=true→s 84=.agg (cvals c2 (.slice ya c2.cells.length yp) (.slice yb c2.words.length yq)))∧(l 8=true→NewI wx 0 (s 85) (waitingIn c2 4))∧(l 9=true→s 86=.pointer (some ⟨w1.heap.size+1,3,none⟩))∧(l 10=true→s 87=.int .i64 hh.cell)∧(l 11=true→s 88=.bool false)∧(l 12=true→s 89=.bool true)∧(l 13=true→s 90=.bool true)∧(l 14=true→s 2=.bool true)) (by kernel_rfl) (by kernel_rfl) (by kernel_rfl) (fun s=>by (simp only [fill,fillA,List.setIfInBounds_toArray,List.set_cons_zero,List.set_cons_succ];rfl)) (fun s=>⟨(Below.refl _ _).drew,fun h=>absurd h Bool.false_ne_true,fun h=>absurd h Bool.false_ne_true,fun h=>absurd h Bool.false_ne_true,fun h=>absurd h Bool.false_ne_true,fun h=>absurd h Bool.false_ne_true,fun h=>absurd h Bool.false_ne_true,fun h=>absurd h Bool.false_ne_true,fun h=>absurd h Bool.false_ne_true,fun h=>absurd h Bool.false_ne_true,fun h=>absurd h Bool.false_ne_true,fun h=>absurd h Bool.false_ne_true,fun h=>absurd h Bool.false_ne_true,fun h=>absurd h Bool.false_ne_true,fun h=>absurd h Bool.false_ne_true,fun h=>absurd h Bool.false_ne_true⟩) ?_ ?_
        refine ⟨?_,?_,?_,?_,?_,?_,?_,?_,?_,?_,?_,?_,?_,?_,?_,trivial⟩;rotate_left 15
        · intro l s w5 hall hf
          have ec:=hf.2.2.2.2.2.2.2.2.2.2.2.2.2.2.2 (hall 14 rfl)
          have hC5:Below w4.heap.size w4 w5:=hf.1
          simp only [ec]
          clear ec hf hall
          go_wp2
          go_ret
          exact ⟨rfl,bT hBw4 hC5⟩
        · intro l s wx hl hd hn hf0 K hK
          have hf:=Lib.hid hf0
          clear hf0
          have hB:=hf.out.1
          have z:=hpS z_w2 hB
          go_simp
          refine hK.out (upd s 77 (.agg (cvals c2 (.slice ya c2.cells.length yp) (.slice yb c2.words.length yq)))) _ _ (by simp [upd_at] <;> rfl) ⟨hf.out.1,fun _=>rfl,fun h=>absurd h (by rw [show upd l 0 true 1=l 1 from rfl,hn 1 rfl];exact Bool.false_ne_true),fun h=>(hf.out.2.2.2.1 h),fun h=>(hf.out.2.2.2.2.1 h),fun h=>absurd h (by rw [show upd l 0 true 4=l 4 from rfl,hn 4 rfl];exact Bool.false_ne_true),fun h=>absurd h (by rw [show upd l 0 true 5=l 5 from rfl,hn 5 rfl];exact Bool.false_ne_true),fun h=>absurd h (by rw [show upd l 0 true 6=l 6 from rfl,hn 6 rfl];exact Bool.false_ne_true),fun h=>absurd h (by rw [show upd l 0 true 7=l 7 from rfl,hn 7 rfl];exact Bool.false_ne_true),fun h=>absurd h (by rw [show upd l 0 true 8=l 8 from rfl,hn 8 rfl];exact Bool.false_ne_true),fun h=>absurd h (by rw [show upd l 0 true 9=l 9 from rfl,hn 9 rfl];exact Bool.false_ne_true),fun h=>absurd h (by rw [show upd l 0 true 10=l 10 from rfl,hn 10 rfl];exact Bool.false_ne_true),fun h=>absurd h (by rw [show upd l 0 true 11=l 11 from rfl,hn 11 rfl];exact Bool.false_ne_true),fun h=>absurd h (by rw [show upd l 0 true 12=l 12 from rfl,hn 12 rfl];exact Bool.false_ne_true),fun h=>absurd h (by rw [show upd l 0 true 13=l 13 from rfl,hn 13 rfl];exact Bool.false_ne_true),fun h=>absurd h (by rw [show upd l 0 true 14=l 14 from rfl,hn 14 rfl];exact Bool.false_ne_true)⟩
        · intro l s wx hl hd hn hf0 K hK
          have hf:=Lib.hid hf0
          clear hf0
          have e0:=(hf.out.2.1 (hd 0 rfl))
          have hB:=hf.out.1
          go_simp
          go_at_call 18
          refine (pWaitingIn_any c2 3 ya yb yp yq _ (((SY1.out.below (bT hJ4 hB))).more (bT hJ4 hB).size) (((SY2.out.below (bT hJ4 hB))).more (bT hJ4 hB).size) M1 M2).mono ?_
          rintro _ wy ⟨⟨v,rfl,V⟩,hE⟩
          refine hK.out (upd s 78 (v)) _ _ (by simp [upd_at,e0] <;> rfl) ⟨bT hf.out.1 hE,fun h=>(hf.out.2.1 h),fun _=>V.more (Nat.zero_le _),fun h=>(hf.out.2.2.2.1 h),fun h=>(hf.out.2.2.2.2.1 h),fun h=>absurd h (by rw [show upd l 1 true 4=l 4 from rfl,hn 4 rfl];exact Bool.false_ne_true),fun h=>absurd h (by rw [show upd l 1 true 5=l 5 from rfl,hn 5 rfl];exact Bool.false_ne_true),fun h=>absurd h (by rw [show upd l 1 true 6=l 6 from rfl,hn 6 rfl];exact Bool.false_ne_true),fun h=>absurd h (by rw [show upd l 1 true 7=l 7 from rfl,hn 7 rfl];exact Bool.false_ne_true),fun h=>absurd h (by rw [show upd l 1 true 8=l 8 from rfl,hn 8 rfl];exact Bool.false_ne_true),fun h=>absurd h (by rw [show upd l 1 true 9=l 9 from rfl,hn 9 rfl];exact Bool.false_ne_true),fun h=>absurd h (by rw [show upd l 1 true 10=l 10 from rfl,hn 10 rfl];exact Bool.false_ne_true),fun h=>absurd h (by rw [show upd l 1 true 11=l 11 from rfl,hn 11 rfl];exact Bool.false_ne_true),fun h=>absurd h (by rw [show upd l 1 true 12=l 12 from rfl,hn 12 rfl];exact Bool.false_ne_true),fun h=>absurd h (by rw [show upd l 1 true 13=l 13 from rfl,hn 13 rfl];exact Bool.false_ne_true),fun h=>absurd h (by rw [show upd l 1 true 14=l 14 from rfl,hn 14 rfl];exact Bool.false_ne_true)⟩
        · intro l s wx hl hd hn hf0 K hK
          have hf:=Lib.hid hf0
          clear hf0
          have hB:=hf.out.1
          go_simp
          refine hK.out (upd s 79 (.pointer (some ⟨w1.heap.size+1,3,none⟩))) _ _ (by simp [upd_at] <;> rfl) ⟨hf.out.1,fun h=>(hf.out.2.1 h),fun h=>(hf.out.2.2.1 h),fun _=>rfl,fun h=>absurd h (by rw [show upd l 2 true 3=l 3 from rfl,hn 3 rfl];exact Bool.false_ne_true),fun h=>absurd h (by rw [show upd l 2 true 4=l 4 from rfl,hn 4 rfl];exact Bool.false_ne_true),fun h=>absurd h (by rw [show upd l 2 true 5=l 5 from rfl,hn 5 rfl];exact Bool.false_ne_true),fun h=>absurd h (by rw [show upd l 2 true 6=l 6 from rfl,hn 6 rfl];exact Bool.false_ne_true),fun h=>absurd h (by rw [show upd l 2 true 7=l 7 from rfl,hn 7 rfl];exact Bool.false_ne_true),fun h=>absurd h (by rw [show upd l 2 true 8=l 8 from rfl,hn 8 rfl];exact Bool.false_ne_true),fun h=>absurd h (by rw [show upd l 2 true 9=l 9 from rfl,hn 9 rfl];exact Bool.false_ne_true),fun h=>absurd h (by rw [show upd l 2 true 10=l 10 from rfl,hn 10 rfl];exact Bool.false_ne_true),fun h=>absurd h (by rw [show upd l 2 true 11=l 11 from rfl,hn 11 rfl];exact Bool.false_ne_true),fun h=>absurd h (by rw [show upd l 2 true 12=l 12 from rfl,hn 12 rfl];exact Bool.false_ne_true),fun h=>absurd h (by rw [show upd l 2 true 13=l 13 from rfl,hn 13 rfl];exact Bool.false_ne_true),fun h=>absurd h (by rw [show upd l 2 true 14=l 14 from rfl,hn 14 rfl];exact Bool.false_ne_true)⟩
        · intro l s wx hl hd hn hf0 K hK
          have hf:=Lib.hid hf0
          clear hf0
          have e2:=(hf.out.2.2.2.1 (hd 2 rfl))
          have hB:=hf.out.1
          have z:=hpS z_w1p hB
          have zc:=(bO z).1 3
          go_simp
          refine hK.out (upd s 80 (.int .i64 hh.cell)) _ _ (by simp [upd_at,e2] <;> rfl) ⟨hf.out.1,fun h=>(hf.out.2.1 h),fun h=>(hf.out.2.2.1 h),fun h=>(hf.out.2.2.2.1 h),fun _=>rfl,fun h=>absurd h (by rw [show upd l 3 true 4=l 4 from rfl,hn 4 rfl];exact Bool.false_ne_true),fun h=>absurd h (by rw [show upd l 3 true 5=l 5 from rfl,hn 5 rfl];exact Bool.false_ne_true),fun h=>absurd h (by rw [show upd l 3 true 6=l 6 from rfl,hn 6 rfl];exact Bool.false_ne_true),fun h=>absurd h (by rw [show upd l 3 true 7=l 7 from rfl,hn 7 rfl];exact Bool.false_ne_true),fun h=>absurd h (by rw [show upd l 3 true 8=l 8 from rfl,hn 8 rfl];exact Bool.false_ne_true),fun h=>absurd h (by rw [show upd l 3 true 9=l 9 from rfl,hn 9 rfl];exact Bool.false_ne_true),fun h=>absurd h (by rw [show upd l 3 true 10=l 10 from rfl,hn 10 rfl];exact Bool.false_ne_true),fun h=>absurd h (by rw [show upd l 3 true 11=l 11 from rfl,hn 11 rfl];exact Bool.false_ne_true),fun h=>absurd h (by rw [show upd l 3 true 12=l 12 from rfl,hn 12 rfl];exact Bool.false_ne_true),fun h=>absurd h (by rw [show upd l 3 true 13=l 13 from rfl,hn 13 rfl];exact Bool.false_ne_true),fun h=>absurd h (by rw [show upd l 3 true 14=l 14 from rfl,hn 14 rfl];exact Bool.false_ne_true)⟩
        · intro l s wx hl hd hn hf0 K hK
          have hf:=Lib.hid hf0
          clear hf0
          have e3:=(hf.out.2.2.2.2.1 (hd 3 rfl))
          have hB:=hf.out.1
          have X:=(hf.out.2.2.1 (hd 1 rfl))
          go_simp
          go_at_call 17
          refine (has_no (waitingIn c2 3) hh.cell _ 0 _ X g3 wm3).mono ?_
          rintro _ wy ⟨rfl,hE⟩
          refine hK.out (upd s 81 (.bool false)) _ _ (by simp [upd_at,e3] <;> rfl) ⟨bT hf.out.1 hE,fun h=>(hf.out.2.1 h),fun h=>New.below (hf.out.2.2.1 h) hE,fun h=>(hf.out.2.2.2.1 h),fun h=>(hf.out.2.2.2.2.1 h),fun _=>rfl,fun h=>absurd h (by rw [show upd l 4 true 5=l 5 from rfl,hn 5 rfl];exact Bool.false_ne_true),fun h=>absurd h (by rw [show upd l 4 true 6=l 6 from rfl,hn 6 rfl];exact Bool.false_ne_true),fun h=>absurd h (by rw [show upd l 4 true 7=l 7 from rfl,hn 7 rfl];exact Bool.false_ne_true),fun h=>absurd h (by rw [show upd l 4 true 8=l 8 from rfl,hn 8 rfl];exact Bool.false_ne_true),fun h=>absurd h (by rw [show upd l 4 true 9=l 9 from rfl,hn 9 rfl];exact Bool.false_ne_true),fun h=>absurd h (by rw [show upd l 4 true 10=l 10 from rfl,hn 10 rfl];exact Bool.false_ne_true),fun h=>absurd h (by rw [show upd l 4 true 11=l 11 from rfl,hn 11 rfl];exact Bool.false_ne_true),fun h=>absurd h (by rw [show upd l 4 true 12=l 12 from rfl,hn 12 rfl];exact Bool.false_ne_true),fun h=>absurd h (by rw [show upd l 4 true 13=l 13 from rfl,hn 13 rfl];exact Bool.false_ne_true),fun h=>absurd h (by rw [show upd l 4 true 14=l 14 from rfl,hn 14 rfl];exact Bool.false_ne_true)⟩
        · intro l s wx hl hd hn hf0 K hK
          have hf:=Lib.hid hf0
          clear hf0
          have e4:=(hf.out.2.2.2.2.2.1 (hd 4 rfl))
          have hB:=hf.out.1
          go_simp
          refine hK.out (upd s 82 (.bool true)) _ _ (by simp [upd_at,e4] <;> rfl) ⟨hf.out.1,fun h=>(hf.out.2.1 h),fun h=>(hf.out.2.2.1 h),fun h=>(hf.out.2.2.2.1 h),fun h=>(hf.out.2.2.2.2.1 h),fun h=>(hf.out.2.2.2.2.2.1 h),fun _=>rfl,fun h=>absurd h (by rw [show upd l 5 true 6=l 6 from rfl,hn 6 rfl];exact Bool.false_ne_true),fun h=>absurd h (by rw [show upd l 5 true 7=l 7 from rfl,hn 7 rfl];exact Bool.false_ne_true),fun h=>absurd h (by rw [show upd l 5 true 8=l 8 from rfl,hn 8 rfl];exact Bool.false_ne_true),fun h=>absurd h (by rw [show upd l 5 true 9=l 9 from rfl,hn 9 rfl];exact Bool.false_ne_true),fun h=>absurd h (by rw [show upd l 5 true 10=l 10 from rfl,hn 10 rfl];exact Bool.false_ne_true),fun h=>absurd h (by rw [show upd l 5 true 11=l 11 from rfl,hn 11 rfl];exact Bool.false_ne_true),fun h=>absurd h (by rw [show upd l 5 true 12=l 12 from rfl,hn 12 rfl];exact Bool.false_ne_true),fun h=>absurd h (by rw [show upd l 5 true 13=l 13 from rfl,hn 13 rfl];exact Bool.false_ne_true),fun h=>absurd h (by rw [show upd l 5 true 14=l 14 from rfl,hn 14 rfl];exact Bool.false_ne_true)⟩
        · intro l s wx hl hd hn hf0 K hK
          have hf:=Lib.hid hf0
          clear hf0
          have e5:=(hf.out.2.2.2.2.2.2.1 (hd 5 rfl))
          have hB:=hf.out.1
          go_simp
          refine hK.out (upd s 83 (.bool true)) _ _ (by simp [upd_at,e5] <;> rfl) ⟨hf.out.1,fun h=>(hf.out.2.1 h),fun h=>(hf.out.2.2.1 h),fun h=>(hf.out.2.2.2.1 h),fun h=>(hf.out.2.2.2.2.1 h),fun h=>(hf.out.2.2.2.2.2.1 h),fun h=>(hf.out.2.2.2.2.2.2.1 h),fun _=>rfl,fun h=>absurd h (by rw [show upd l 6 true 7=l 7 from rfl,hn 7 rfl];exact Bool.false_ne_true),fun h=>absurd h (by rw [show upd l 6 true 8=l 8 from rfl,hn 8 rfl];exact Bool.false_ne_true),fun h=>absurd h (by rw [show upd l 6 true 9=l 9 from rfl,hn 9 rfl];exact Bool.false_ne_true),fun h=>absurd h (by rw [show upd l 6 true 10=l 10 from rfl,hn 10 rfl];exact Bool.false_ne_true),fun h=>absurd h (by rw [show upd l 6 true 11=l 11 from rfl,hn 11 rfl];exact Bool.false_ne_true),fun h=>absurd h (by rw [show upd l 6 true 12=l 12 from rfl,hn 12 rfl];exact Bool.false_ne_true),fun h=>absurd h (by rw [show upd l 6 true 13=l 13 from rfl,hn 13 rfl];exact Bool.false_ne_true),fun h=>absurd h (by rw [show upd l 6 true 14=l 14 from rfl,hn 14 rfl];exact Bool.false_ne_true)⟩
        · intro l s wx hl hd hn hf0 K hK
          have hf:=Lib.hid hf0
          clear hf0
          have e6:=(hf.out.2.2.2.2.2.2.2.1 (hd 6 rfl))
          have hB:=hf.out.1
          have z:=hpS z_w2 hB
          go_simp
          refine hK.out (upd s 84 (.agg (cvals c2 (.slice ya c2.cells.length yp) (.slice yb c2.words.length yq)))) _ _ (by simp [upd_at,e6] <;> rfl) ⟨hf.out.1,fun h=>(hf.out.2.1 h),fun h=>(hf.out.2.2.1 h),fun h=>(hf.out.2.2.2.1 h),fun h=>(hf.out.2.2.2.2.1 h),fun h=>(hf.out.2.2.2.2.2.1 h),fun h=>(hf.out.2.2.2.2.2.2.1 h),fun h=>(hf.out.2.2.2.2.2.2.2.1 h),fun _=>rfl,fun h=>absurd h (by rw [show upd l 7 true 8=l 8 from rfl,hn 8 rfl];exact Bool.false_ne_true),fun h=>(hf.out.2.2.2.2.2.2.2.2.2.2.1 h),fun h=>(hf.out.2.2.2.2.2.2.2.2.2.2.2.1 h),fun h=>absurd h (by rw [show upd l 7 true 11=l 11 from rfl,hn 11 rfl];exact Bool.false_ne_true),fun h=>absurd h (by rw [show upd l 7 true 12=l 12 from rfl,hn 12 rfl];exact Bool.false_ne_true),fun h=>absurd h (by rw [show upd l 7 true 13=l 13 from rfl,hn 13 rfl];exact Bool.false_ne_true),fun h=>absurd h (by rw [show upd l 7 true 14=l 14 from rfl,hn 14 rfl];exact Bool.false_ne_true)⟩
        · intro l s wx hl hd hn hf0 K hK
          have hf:=Lib.hid hf0
          clear hf0
          have e7:=(hf.out.2.2.2.2.2.2.2.2.1 (hd 7 rfl))
          have e6:=(hf.out.2.2.2.2.2.2.2.1 (hd 6 rfl))
          have hB:=hf.out.1
          go_simp
          go_at_call 18
          refine (pWaitingIn_any c2 4 ya yb yp yq _ (((SY1.out.below (bT hJ4 hB))).more (bT hJ4 hB).size) (((SY2.out.below (bT hJ4 hB))).more (bT hJ4 hB).size) M1 M2).mono ?_
          rintro _ wy ⟨⟨v,rfl,V⟩,hE⟩
          refine hK.out (upd s 85 (v)) _ _ (by simp [upd_at,e7,e6] <;> rfl) ⟨bT hf.out.1 hE,fun h=>(hf.out.2.1 h),fun h=>New.below (hf.out.2.2.1 h) hE,fun h=>(hf.out.2.2.2.1 h),fun h=>(hf.out.2.2.2.2.1 h),fun h=>(hf.out.2.2.2.2.2.1 h),fun h=>(hf.out.2.2.2.2.2.2.1 h),fun h=>(hf.out.2.2.2.2.2.2.2.1 h),fun h=>(hf.out.2.2.2.2.2.2.2.2.1 h),fun _=>V.more (Nat.zero_le _),fun h=>(hf.out.2.2.2.2.2.2.2.2.2.2.1 h),fun h=>(hf.out.2.2.2.2.2.2.2.2.2.2.2.1 h),fun h=>absurd h (by rw [show upd l 8 true 11=l 11 from rfl,hn 11 rfl];exact Bool.false_ne_true),fun h=>absurd h (by rw [show upd l 8 true 12=l 12 from rfl,hn 12 rfl];exact Bool.false_ne_true),fun h=>absurd h (by rw [show upd l 8 true 13=l 13 from rfl,hn 13 rfl];exact Bool.false_ne_true),fun h=>absurd h (by rw [show upd l 8 true 14=l 14 from rfl,hn 14 rfl];exact Bool.false_ne_true)⟩
        · intro l s wx hl hd hn hf0 K hK
          have hf:=Lib.hid hf0
          clear hf0
          have e6:=(hf.out.2.2.2.2.2.2.2.1 (hd 6 rfl))
          have hB:=hf.out.1
          go_simp
          refine hK.out (upd s 86 (.pointer (some ⟨w1.heap.size+1,3,none⟩))) _ _ (by simp [upd_at,e6] <;> rfl) ⟨hf.out.1,fun h=>(hf.out.2.1 h),fun h=>(hf.out.2.2.1 h),fun h=>(hf.out.2.2.2.1 h),fun h=>(hf.out.2.2.2.2.1 h),fun h=>(hf.out.2.2.2.2.2.1 h),fun h=>(hf.out.2.2.2.2.2.2.1 h),fun h=>(hf.out.2.2.2.2.2.2.2.1 h),fun h=>(hf.out.2.2.2.2.2.2.2.2.1 h),fun h=>(hf.out.2.2.2.2.2.2.2.2.2.1 h),fun _=>rfl,fun h=>absurd h (by rw [show upd l 9 true 10=l 10 from rfl,hn 10 rfl];exact Bool.false_ne_true),fun h=>absurd h (by rw [show upd l 9 true 11=l 11 from rfl,hn 11 rfl];exact Bool.false_ne_true),fun h=>absurd h (by rw [show upd l 9 true 12=l 12 from rfl,hn 12 rfl];exact Bool.false_ne_true),fun h=>absurd h (by rw [show upd l 9 true 13=l 13 from rfl,hn 13 rfl];exact Bool.false_ne_true),fun h=>absurd h (by rw [show upd l 9 true 14=l 14 from rfl,hn 14 rfl];exact Bool.false_ne_true)⟩
        · intro l s wx hl hd hn hf0 K hK
          have hf:=Lib.hid hf0
          clear hf0
          have e9:=(hf.out.2.2.2.2.2.2.2.2.2.2.1 (hd 9 rfl))
          have e6:=(hf.out.2.2.2.2.2.2.2.1 (hd 6 rfl))
          have hB:=hf.out.1
          have z:=hpS z_w1p hB
          have zc:=(bO z).1 3
          go_simp
          refine hK.out (upd s 87 (.int .i64 hh.cell)) _ _ (by simp [upd_at,e9,e6] <;> rfl) ⟨hf.out.1,fun h=>(hf.out.2.1 h),fun h=>(hf.out.2.2.1 h),fun h=>(hf.out.2.2.2.1 h),fun h=>(hf.out.2.2.2.2.1 h),fun h=>(hf.out.2.2.2.2.2.1 h),fun h=>(hf.out.2.2.2.2.2.2.1 h),fun h=>(hf.out.2.2.2.2.2.2.2.1 h),fun h=>(hf.out.2.2.2.2.2.2.2.2.1 h),fun h=>(hf.out.2.2.2.2.2.2.2.2.2.1 h),fun h=>(hf.out.2.2.2.2.2.2.2.2.2.2.1 h),fun _=>rfl,fun h=>absurd h (by rw [show upd l 10 true 11=l 11 from rfl,hn 11 rfl];exact Bool.false_ne_true),fun h=>absurd h (by rw [show upd l 10 true 12=l 12 from rfl,hn 12 rfl];exact Bool.false_ne_true),fun h=>absurd h (by rw [show upd l 10 true 13=l 13 from rfl,hn 13 rfl];exact Bool.false_ne_true),fun h=>absurd h (by rw [show upd l 10 true 14=l 14 from rfl,hn 14 rfl];exact Bool.false_ne_true)⟩
        · intro l s wx hl hd hn hf0 K hK
          have hf:=Lib.hid hf0
          clear hf0
          have e10:=(hf.out.2.2.2.2.2.2.2.2.2.2.2.1 (hd 10 rfl))
          have e6:=(hf.out.2.2.2.2.2.2.2.1 (hd 6 rfl))
          have hB:=hf.out.1
          have X:=(hf.out.2.2.2.2.2.2.2.2.2.1 (hd 8 rfl))
          go_simp
          go_at_call 17
          refine (has_no (waitingIn c2 4) hh.cell _ 0 _ X g4 wm4).mono ?_
          rintro _ wy ⟨rfl,hE⟩
          refine hK.out (upd s 88 (.bool false)) _ _ (by simp [upd_at,e10,e6] <;> rfl) ⟨bT hf.out.1 hE,fun h=>(hf.out.2.1 h),fun h=>New.below (hf.out.2.2.1 h) hE,fun h=>(hf.out.2.2.2.1 h),fun h=>(hf.out.2.2.2.2.1 h),fun h=>(hf.out.2.2.2.2.2.1 h),fun h=>(hf.out.2.2.2.2.2.2.1 h),fun h=>(hf.out.2.2.2.2.2.2.2.1 h),fun h=>(hf.out.2.2.2.2.2.2.2.2.1 h),fun h=>New.below (hf.out.2.2.2.2.2.2.2.2.2.1 h) hE,fun h=>(hf.out.2.2.2.2.2.2.2.2.2.2.1 h),fun h=>(hf.out.2.2.2.2.2.2.2.2.2.2.2.1 h),fun _=>rfl,fun h=>absurd h (by rw [show upd l 11 true 12=l 12 from rfl,hn 12 rfl];exact Bool.false_ne_true),fun h=>absurd h (by rw [show upd l 11 true 13=l 13 from rfl,hn 13 rfl];exact Bool.false_ne_true),fun h=>absurd h (by rw [show upd l 11 true 14=l 14 from rfl,hn 14 rfl];exact Bool.false_ne_true)⟩
        · intro l s wx hl hd hn hf0 K hK
          have hf:=Lib.hid hf0
          clear hf0
          have e11:=(hf.out.2.2.2.2.2.2.2.2.2.2.2.2.1 (hd 11 rfl))
          have e6:=(hf.out.2.2.2.2.2.2.2.1 (hd 6 rfl))
          have hB:=hf.out.1
          go_simp
          refine hK.out (upd s 89 (.bool true)) _ _ (by simp [upd_at,e11,e6] <;> rfl) ⟨hf.out.1,fun h=>(hf.out.2.1 h),fun h=>(hf.out.2.2.1 h),fun h=>(hf.out.2.2.2.1 h),fun h=>(hf.out.2.2.2.2.1 h),fun h=>(hf.out.2.2.2.2.2.1 h),fun h=>(hf.out.2.2.2.2.2.2.1 h),fun h=>(hf.out.2.2.2.2.2.2.2.1 h),fun h=>(hf.out.2.2.2.2.2.2.2.2.1 h),fun h=>(hf.out.2.2.2.2.2.2.2.2.2.1 h),fun h=>(hf.out.2.2.2.2.2.2.2.2.2.2.1 h),fun h=>(hf.out.2.2.2.2.2.2.2.2.2.2.2.1 h),fun h=>(hf.out.2.2.2.2.2.2.2.2.2.2.2.2.1 h),fun _=>rfl,fun h=>absurd h (by rw [show upd l 12 true 13=l 13 from rfl,hn 13 rfl];exact Bool.false_ne_true),fun h=>absurd h (by rw [show upd l 12 true 14=l 14 from rfl,hn 14 rfl];exact Bool.false_ne_true)⟩
        · intro l s wx hl hd hn hf0 K hK
          have hf:=Lib.hid hf0
          clear hf0
          have e6:=(hf.out.2.2.2.2.2.2.2.1 (hd 6 rfl))
          have e12:=(hf.out.2.2.2.2.2.2.2.2.2.2.2.2.2.1 (hd 12 rfl))
          have hB:=hf.out.1
          go_simp
          refine hK.out (upd s 90 (.bool true)) _ _ (by simp [upd_at,e6,e12] <;> rfl) ⟨hf.out.1,fun h=>(hf.out.2.1 h),fun h=>(hf.out.2.2.1 h),fun h=>(hf.out.2.2.2.1 h),fun h=>(hf.out.2.2.2.2.1 h),fun h=>(hf.out.2.2.2.2.2.1 h),fun h=>(hf.out.2.2.2.2.2.2.1 h),fun h=>(hf.out.2.2.2.2.2.2.2.1 h),fun h=>(hf.out.2.2.2.2.2.2.2.2.1 h),fun h=>(hf.out.2.2.2.2.2.2.2.2.2.1 h),fun h=>(hf.out.2.2.2.2.2.2.2.2.2.2.1 h),fun h=>(hf.out.2.2.2.2.2.2.2.2.2.2.2.1 h),fun h=>(hf.out.2.2.2.2.2.2.2.2.2.2.2.2.1 h),fun h=>(hf.out.2.2.2.2.2.2.2.2.2.2.2.2.2.1 h),fun _=>rfl,fun h=>absurd h (by rw [show upd l 13 true 14=l 14 from rfl,hn 14 rfl];exact Bool.false_ne_true)⟩
        · intro l s wx hl hd hn hf0 K hK
          have hf:=Lib.hid hf0
          clear hf0
          have e13:=(hf.out.2.2.2.2.2.2.2.2.2.2.2.2.2.2.1 (hd 13 rfl))
          have hB:=hf.out.1
          go_simp
          refine hK.out (upd s 2 (.bool true)) _ _ (by simp [upd_at,e13] <;> rfl) ⟨hf.out.1,fun h=>(hf.out.2.1 h),fun h=>(hf.out.2.2.1 h),fun h=>(hf.out.2.2.2.1 h),fun h=>(hf.out.2.2.2.2.1 h),fun h=>(hf.out.2.2.2.2.2.1 h),fun h=>(hf.out.2.2.2.2.2.2.1 h),fun h=>(hf.out.2.2.2.2.2.2.2.1 h),fun h=>(hf.out.2.2.2.2.2.2.2.2.1 h),fun h=>(hf.out.2.2.2.2.2.2.2.2.2.1 h),fun h=>(hf.out.2.2.2.2.2.2.2.2.2.2.1 h),fun h=>(hf.out.2.2.2.2.2.2.2.2.2.2.2.1 h),fun h=>(hf.out.2.2.2.2.2.2.2.2.2.2.2.2.1 h),fun h=>(hf.out.2.2.2.2.2.2.2.2.2.2.2.2.2.1 h),fun h=>(hf.out.2.2.2.2.2.2.2.2.2.2.2.2.2.2.1 h),fun _=>rfl⟩
      · have hrp':h2.reply=3→¬ h2.pos=0:=fun a b=>hrp ⟨a,b⟩
        by_cases hr:h2.reply=3
        · have hp:=hrp' hr
          clear hrp hrp'
          go_wp2_with fail
          refine (iChanOk_any c2 ya yb yp yq _ (((SY1).out.below (by exact zB)).more (by (try simp) <;> omega)) (((SY2).out.below (by exact zB)).more (by (try simp) <;> omega)) M1 M2).mono ?_
          rintro _ w5 ⟨rfl,hbw5⟩
          have hBw5:Below w.heap.size w w5:=bT (by exact zB) hbw5
          have hsw5:=hbw5.size;(try (simp at hsw5));have zz:=hQ hbw5 (b:=w1.heap.size);(first|(simp [go_sem,z_w1,l_w1,kw1w4,jw1w4,kw1pw4,jw1pw4,kw2w4,jw2w4,kw2pw4,jw2pw4,kw3w4,jw3w4,kw3pw4,jw3pw4] at zz)|(simp [go_sem,kw1w4,jw1w4,kw1pw4,jw1pw4,kw2w4,jw2w4,kw2pw4,jw2pw4,kw3w4,jw3w4,kw3pw4,jw3pw4] at zz));(try clear x_w1 f_w1);(try clear z_w1);have z_w1:=zz;clear zz;(try clear l_w1);obtain ⟨x_w1,f_w1,l_w1⟩:=bO z_w1;have zz:=hQ hbw5 (b:=w1.heap.size+1);(first|(simp [go_sem,z_w1p,l_w1p,kw1w4,jw1w4,kw1pw4,jw1pw4,kw2w4,jw2w4,kw2pw4,jw2pw4,kw3w4,jw3w4,kw3pw4,jw3pw4] at zz)|(simp [go_sem,kw1w4,jw1w4,kw1pw4,jw1pw4,kw2w4,jw2w4,kw2pw4,jw2pw4,kw3w4,jw3w4,kw3pw4,jw3pw4] at zz));(try clear x_w1p f_w1p);(try clear z_w1p);have z_w1p:=zz;clear zz;(try clear l_w1p);obtain ⟨x_w1p,f_w1p,l_w1p⟩:=bO z_w1p;have zz:=hQ hbw5 (b:=w2.heap.size);(first|(simp [go_sem,z_w2,l_w2,kw1w4,jw1w4,kw1pw4,jw1pw4,kw2w4,jw2w4,kw2pw4,jw2pw4,kw3w4,jw3w4,kw3pw4,jw3pw4] at zz)|(simp [go_sem,kw1w4,jw1w4,kw1pw4,jw1pw4,kw2w4,jw2w4,kw2pw4,jw2pw4,kw3w4,jw3w4,kw3pw4,jw3pw4] at zz));(try clear x_w2 f_w2);(try clear z_w2);have z_w2:=zz;clear zz;(try clear l_w2);obtain ⟨x_w2,f_w2,l_w2⟩:=bO z_w2;have zz:=hQ hbw5 (b:=w2.heap.size+1);(first|(simp [go_sem,z_w2p,l_w2p,kw1w4,jw1w4,kw1pw4,jw1pw4,kw2w4,jw2w4,kw2pw4,jw2pw4,kw3w4,jw3w4,kw3pw4,jw3pw4] at zz)|(simp [go_sem,kw1w4,jw1w4,kw1pw4,jw1pw4,kw2w4,jw2w4,kw2pw4,jw2pw4,kw3w4,jw3w4,kw3pw4,jw3pw4] at zz));(try clear x_w2p f_w2p);(try clear z_w2p);have z_w2p:=zz;clear zz;(try clear l_w2p);obtain ⟨x_w2p,f_w2p,l_w2p⟩:=bO z_w2p;have zz:=hQ hbw5 (b:=w3.heap.size);(first|(simp [go_sem,z_w3,l_w3,kw1w4,jw1w4,kw1pw4,jw1pw4,kw2w4,jw2w4,kw2pw4,jw2pw4,kw3w4,jw3w4,kw3pw4,jw3pw4] at zz)|(simp [go_sem,kw1w4,jw1w4,kw1pw4,jw1pw4,kw2w4,jw2w4,kw2pw4,jw2pw4,kw3w4,jw3w4,kw3pw4,jw3pw4] at zz));(try clear x_w3 f_w3);(try clear z_w3);have z_w3:=zz;clear zz;(try clear l_w3);obtain ⟨x_w3,f_w3,l_w3⟩:=bO z_w3;have zz:=hQ hbw5 (b:=w3.heap.size+1);(first|(simp [go_sem,z_w3p,l_w3p,kw1w4,jw1w4,kw1pw4,jw1pw4,kw2w4,jw2w4,kw2pw4,jw2pw4,kw3w4,jw3w4,kw3pw4,jw3pw4] at zz)|(simp [go_sem,kw1w4,jw1w4,kw1pw4,jw1pw4,kw2w4,jw2w4,kw2pw4,jw2pw4,kw3w4,jw3w4,kw3pw4,jw3pw4] at zz));(try clear x_w3p f_w3p);(try clear z_w3p);have z_w3p:=zz;clear zz;(try clear l_w3p);obtain ⟨x_w3p,f_w3p,l_w3p⟩:=bO z_w3p
          have kw1w5:w1.heap.size<w5.heap.size:=by omega
          have jw1w5:w1.heap.size<w5.heap.size+1:=by omega
          have kw1pw5:w1.heap.size+1<w5.heap.size:=by omega
          have jw1pw5:w1.heap.size+1<w5.heap.size+1:=by omega
          have kw2w5:w2.heap.size<w5.heap.size:=by omega
          have jw2w5:w2.heap.size<w5.heap.size+1:=by omega
          have kw2pw5:w2.heap.size+1<w5.heap.size:=by omega
          have jw2pw5:w2.heap.size+1<w5.heap.size+1:=by omega
          have kw3w5:w3.heap.size<w5.heap.size:=by omega
          have jw3w5:w3.heap.size<w5.heap.size+1:=by omega
          have kw3pw5:w3.heap.size+1<w5.heap.size:=by omega
          have jw3pw5:w3.heap.size+1<w5.heap.size+1:=by omega
          have hK5:Below w1.heap.size w1 w5:=bT (by exact zB) hbw5
          have hJ5:Below w2.heap.size w2 w5:=bT (by exact zB) hbw5
          clear hbw5
          rw [k1]
          go_wp2_with fail
          refine (touched_any c c2 e1 e2 ya yb p1 p2 yp yq _ (((S1).out.below (by exact zB)).more (by (try simp) <;> omega)) (((S2).out.below (by exact zB)).more (by (try simp) <;> omega)) (((SY1).out.below (by exact zB)).more (by (try simp) <;> omega)) (((SY2).out.below (by exact zB)).more (by (try simp) <;> omega)) q1 q2 q3 q4).mono ?_
          rintro _ w7 ⟨rfl,hbw7⟩
          have hBw7:Below w.heap.size w w7:=bT (by exact zB) hbw7
          have hsw7:=hbw7.size;(try (simp at hsw7));have zz:=hQ hbw7 (b:=w1.heap.size);(first|(simp [go_sem,z_w1,l_w1,kw1w5,jw1w5,kw1pw5,jw1pw5,kw2w5,jw2w5,kw2pw5,jw2pw5,kw3w5,jw3w5,kw3pw5,jw3pw5] at zz)|(simp [go_sem,kw1w5,jw1w5,kw1pw5,jw1pw5,kw2w5,jw2w5,kw2pw5,jw2pw5,kw3w5,jw3w5,kw3pw5,jw3pw5] at zz));(try clear x_w1 f_w1);(try clear z_w1);have z_w1:=zz;clear zz;(try clear l_w1);obtain ⟨x_w1,f_w1,l_w1⟩:=bO z_w1;have zz:=hQ hbw7 (b:=w1.heap.size+1);(first|(simp [go_sem,z_w1p,l_w1p,kw1w5,jw1w5,kw1pw5,jw1pw5,kw2w5,jw2w5,kw2pw5,jw2pw5,kw3w5,jw3w5,kw3pw5,jw3pw5] at zz)|(simp [go_sem,kw1w5,jw1w5,kw1pw5,jw1pw5,kw2w5,jw2w5,kw2pw5,jw2pw5,kw3w5,jw3w5,kw3pw5,jw3pw5] at zz));(try clear x_w1p f_w1p);(try clear z_w1p);have z_w1p:=zz;clear zz;(try clear l_w1p);obtain ⟨x_w1p,f_w1p,l_w1p⟩:=bO z_w1p;have zz:=hQ hbw7 (b:=w2.heap.size);(first|(simp [go_sem,z_w2,l_w2,kw1w5,jw1w5,kw1pw5,jw1pw5,kw2w5,jw2w5,kw2pw5,jw2pw5,kw3w5,jw3w5,kw3pw5,jw3pw5] at zz)|(simp [go_sem,kw1w5,jw1w5,kw1pw5,jw1pw5,kw2w5,jw2w5,kw2pw5,jw2pw5,kw3w5,jw3w5,kw3pw5,jw3pw5] at zz));(try clear x_w2 f_w2);(try clear z_w2);have z_w2:=zz;clear zz;(try clear l_w2);obtain ⟨x_w2,f_w2,l_w2⟩:=bO z_w2;have zz:=hQ hbw7 (b:=w2.heap.size+1);(first|(simp [go_sem,z_w2p,l_w2p,kw1w5,jw1w5,kw1pw5,jw1pw5,kw2w5,jw2w5,kw2pw5,jw2pw5,kw3w5,jw3w5,kw3pw5,jw3pw5] at zz)|(simp [go_sem,kw1w5,jw1w5,kw1pw5,jw1pw5,kw2w5,jw2w5,kw2pw5,jw2pw5,kw3w5,jw3w5,kw3pw5,jw3pw5] at zz));(try clear x_w2p f_w2p);(try clear z_w2p);have z_w2p:=zz;clear zz;(try clear l_w2p);obtain ⟨x_w2p,f_w2p,l_w2p⟩:=bO z_w2p;have zz:=hQ hbw7 (b:=w3.heap.size);(first|(simp [go_sem,z_w3,l_w3,kw1w5,jw1w5,kw1pw5,jw1pw5,kw2w5,jw2w5,kw2pw5,jw2pw5,kw3w5,jw3w5,kw3pw5,jw3pw5] at zz)|(simp [go_sem,kw1w5,jw1w5,kw1pw5,jw1pw5,kw2w5,jw2w5,kw2pw5,jw2pw5,kw3w5,jw3w5,kw3pw5,jw3pw5] at zz));(try clear x_w3 f_w3);(try clear z_w3);have z_w3:=zz;clear zz;(try clear l_w3);obtain ⟨x_w3,f_w3,l_w3⟩:=bO z_w3;have zz:=hQ hbw7 (b:=w3.heap.size+1);(first|(simp [go_sem,z_w3p,l_w3p,kw1w5,jw1w5,kw1pw5,jw1pw5,kw2w5,jw2w5,kw2pw5,jw2pw5,kw3w5,jw3w5,kw3pw5,jw3pw5] at zz)|(simp [go_sem,kw1w5,jw1w5,kw1pw5,jw1pw5,kw2w5,jw2w5,kw2pw5,jw2pw5,kw3w5,jw3w5,kw3pw5,jw3pw5] at zz));(try clear x_w3p f_w3p);(try clear z_w3p);have z_w3p:=zz;clear zz;(try clear l_w3p);obtain ⟨x_w3p,f_w3p,l_w3p⟩:=bO z_w3p
          have kw1w7:w1.heap.size<w7.heap.size:=by omega
          have jw1w7:w1.heap.size<w7.heap.size+1:=by omega
          have kw1pw7:w1.heap.size+1<w7.heap.size:=by omega
          have jw1pw7:w1.heap.size+1<w7.heap.size+1:=by omega
          have kw2w7:w2.heap.size<w7.heap.size:=by omega
          have jw2w7:w2.heap.size<w7.heap.size+1:=by omega
          have kw2pw7:w2.heap.size+1<w7.heap.size:=by omega
          have jw2pw7:w2.heap.size+1<w7.heap.size+1:=by omega
          have kw3w7:w3.heap.size<w7.heap.size:=by omega
          have jw3w7:w3.heap.size<w7.heap.size+1:=by omega
          have kw3pw7:w3.heap.size+1<w7.heap.size:=by omega
          have jw3pw7:w3.heap.size+1<w7.heap.size+1:=by omega
          go_wp2
          go_ret
          exact ⟨rfl,by exact zB⟩
        · clear hrp hrp'
          go_wp2_with fail
          refine (iChanOk_any c2 ya yb yp yq _ (((SY1).out.below (by exact zB)).more (by (try simp) <;> omega)) (((SY2).out.below (by exact zB)).more (by (try simp) <;> omega)) M1 M2).mono ?_
          rintro _ w5 ⟨rfl,hbw5⟩
          have hBw5:Below w.heap.size w w5:=bT (by exact zB) hbw5
          have hsw5:=hbw5.size;(try (simp at hsw5));have zz:=hQ hbw5 (b:=w1.heap.size);(first|(simp [go_sem,z_w1,l_w1,kw1w4,jw1w4,kw1pw4,jw1pw4,kw2w4,jw2w4,kw2pw4,jw2pw4,kw3w4,jw3w4,kw3pw4,jw3pw4] at zz)|(simp [go_sem,kw1w4,jw1w4,kw1pw4,jw1pw4,kw2w4,jw2w4,kw2pw4,jw2pw4,kw3w4,jw3w4,kw3pw4,jw3pw4] at zz));(try clear x_w1 f_w1);(try clear z_w1);have z_w1:=zz;clear zz;(try clear l_w1);obtain ⟨x_w1,f_w1,l_w1⟩:=bO z_w1;have zz:=hQ hbw5 (b:=w1.heap.size+1);(first|(simp [go_sem,z_w1p,l_w1p,kw1w4,jw1w4,kw1pw4,jw1pw4,kw2w4,jw2w4,kw2pw4,jw2pw4,kw3w4,jw3w4,kw3pw4,jw3pw4] at zz)|(simp [go_sem,kw1w4,jw1w4,kw1pw4,jw1pw4,kw2w4,jw2w4,kw2pw4,jw2pw4,kw3w4,jw3w4,kw3pw4,jw3pw4] at zz));(try clear x_w1p f_w1p);(try clear z_w1p);have z_w1p:=zz;clear zz;(try clear l_w1p);obtain ⟨x_w1p,f_w1p,l_w1p⟩:=bO z_w1p;have zz:=hQ hbw5 (b:=w2.heap.size);(first|(simp [go_sem,z_w2,l_w2,kw1w4,jw1w4,kw1pw4,jw1pw4,kw2w4,jw2w4,kw2pw4,jw2pw4,kw3w4,jw3w4,kw3pw4,jw3pw4] at zz)|(simp [go_sem,kw1w4,jw1w4,kw1pw4,jw1pw4,kw2w4,jw2w4,kw2pw4,jw2pw4,kw3w4,jw3w4,kw3pw4,jw3pw4] at zz));(try clear x_w2 f_w2);(try clear z_w2);have z_w2:=zz;clear zz;(try clear l_w2);obtain ⟨x_w2,f_w2,l_w2⟩:=bO z_w2;have zz:=hQ hbw5 (b:=w2.heap.size+1);(first|(simp [go_sem,z_w2p,l_w2p,kw1w4,jw1w4,kw1pw4,jw1pw4,kw2w4,jw2w4,kw2pw4,jw2pw4,kw3w4,jw3w4,kw3pw4,jw3pw4] at zz)|(simp [go_sem,kw1w4,jw1w4,kw1pw4,jw1pw4,kw2w4,jw2w4,kw2pw4,jw2pw4,kw3w4,jw3w4,kw3pw4,jw3pw4] at zz));(try clear x_w2p f_w2p);(try clear z_w2p);have z_w2p:=zz;clear zz;(try clear l_w2p);obtain ⟨x_w2p,f_w2p,l_w2p⟩:=bO z_w2p;have zz:=hQ hbw5 (b:=w3.heap.size);(first|(simp [go_sem,z_w3,l_w3,kw1w4,jw1w4,kw1pw4,jw1pw4,kw2w4,jw2w4,kw2pw4,jw2pw4,kw3w4,jw3w4,kw3pw4,jw3pw4] at zz)|(simp [go_sem,kw1w4,jw1w4,kw1pw4,jw1pw4,kw2w4,jw2w4,kw2pw4,jw2pw4,kw3w4,jw3w4,kw3pw4,jw3pw4] at zz));(try clear x_w3 f_w3);(try clear z_w3);have z_w3:=zz;clear zz;(try clear l_w3);obtain ⟨x_w3,f_w3,l_w3⟩:=bO z_w3;have zz:=hQ hbw5 (b:=w3.heap.size+1);(first|(simp [go_sem,z_w3p,l_w3p,kw1w4,jw1w4,kw1pw4,jw1pw4,kw2w4,jw2w4,kw2pw4,jw2pw4,kw3w4,jw3w4,kw3pw4,jw3pw4] at zz)|(simp [go_sem,kw1w4,jw1w4,kw1pw4,jw1pw4,kw2w4,jw2w4,kw2pw4,jw2pw4,kw3w4,jw3w4,kw3pw4,jw3pw4] at zz));(try clear x_w3p f_w3p);(try clear z_w3p);have z_w3p:=zz;clear zz;(try clear l_w3p);obtain ⟨x_w3p,f_w3p,l_w3p⟩:=bO z_w3p
          have kw1w5:w1.heap.size<w5.heap.size:=by omega
          have jw1w5:w1.heap.size<w5.heap.size+1:=by omega
          have kw1pw5:w1.heap.size+1<w5.heap.size:=by omega
          have jw1pw5:w1.heap.size+1<w5.heap.size+1:=by omega
          have kw2w5:w2.heap.size<w5.heap.size:=by omega
          have jw2w5:w2.heap.size<w5.heap.size+1:=by omega
          have kw2pw5:w2.heap.size+1<w5.heap.size:=by omega
          have jw2pw5:w2.heap.size+1<w5.heap.size+1:=by omega
          have kw3w5:w3.heap.size<w5.heap.size:=by omega
          have jw3w5:w3.heap.size<w5.heap.size+1:=by omega
          have kw3pw5:w3.heap.size+1<w5.heap.size:=by omega
          have jw3pw5:w3.heap.size+1<w5.heap.size+1:=by omega
          have hK5:Below w1.heap.size w1 w5:=bT (by exact zB) hbw5
          have hJ5:Below w2.heap.size w2 w5:=bT (by exact zB) hbw5
          clear hbw5
          rw [k1]
          go_wp2_with fail
          refine (touched_any c c2 e1 e2 ya yb p1 p2 yp yq _ (((S1).out.below (by exact zB)).more (by (try simp) <;> omega)) (((S2).out.below (by exact zB)).more (by (try simp) <;> omega)) (((SY1).out.below (by exact zB)).more (by (try simp) <;> omega)) (((SY2).out.below (by exact zB)).more (by (try simp) <;> omega)) q1 q2 q3 q4).mono ?_
          rintro _ w7 ⟨rfl,hbw7⟩
          have hBw7:Below w.heap.size w w7:=bT (by exact zB) hbw7
          have hsw7:=hbw7.size;(try (simp at hsw7));have zz:=hQ hbw7 (b:=w1.heap.size);(first|(simp [go_sem,z_w1,l_w1,kw1w5,jw1w5,kw1pw5,jw1pw5,kw2w5,jw2w5,kw2pw5,jw2pw5,kw3w5,jw3w5,kw3pw5,jw3pw5] at zz)|(simp [go_sem,kw1w5,jw1w5,kw1pw5,jw1pw5,kw2w5,jw2w5,kw2pw5,jw2pw5,kw3w5,jw3w5,kw3pw5,jw3pw5] at zz));(try clear x_w1 f_w1);(try clear z_w1);have z_w1:=zz;clear zz;(try clear l_w1);obtain ⟨x_w1,f_w1,l_w1⟩:=bO z_w1;have zz:=hQ hbw7 (b:=w1.heap.size+1);(first|(simp [go_sem,z_w1p,l_w1p,kw1w5,jw1w5,kw1pw5,jw1pw5,kw2w5,jw2w5,kw2pw5,jw2pw5,kw3w5,jw3w5,kw3pw5,jw3pw5] at zz)|(simp [go_sem,kw1w5,jw1w5,kw1pw5,jw1pw5,kw2w5,jw2w5,kw2pw5,jw2pw5,kw3w5,jw3w5,kw3pw5,jw3pw5] at zz));(try clear x_w1p f_w1p);(try clear z_w1p);have z_w1p:=zz;clear zz;(try clear l_w1p);obtain ⟨x_w1p,f_w1p,l_w1p⟩:=bO z_w1p;have zz:=hQ hbw7 (b:=w2.heap.size);(first|(simp [go_sem,z_w2,l_w2,kw1w5,jw1w5,kw1pw5,jw1pw5,kw2w5,jw2w5,kw2pw5,jw2pw5,kw3w5,jw3w5,kw3pw5,jw3pw5] at zz)|(simp [go_sem,kw1w5,jw1w5,kw1pw5,jw1pw5,kw2w5,jw2w5,kw2pw5,jw2pw5,kw3w5,jw3w5,kw3pw5,jw3pw5] at zz));(try clear x_w2 f_w2);(try clear z_w2);have z_w2:=zz;clear zz;(try clear l_w2);obtain ⟨x_w2,f_w2,l_w2⟩:=bO z_w2;have zz:=hQ hbw7 (b:=w2.heap.size+1);(first|(simp [go_sem,z_w2p,l_w2p,kw1w5,jw1w5,kw1pw5,jw1pw5,kw2w5,jw2w5,kw2pw5,jw2pw5,kw3w5,jw3w5,kw3pw5,jw3pw5] at zz)|(simp [go_sem,kw1w5,jw1w5,kw1pw5,jw1pw5,kw2w5,jw2w5,kw2pw5,jw2pw5,kw3w5,jw3w5,kw3pw5,jw3pw5] at zz));(try clear x_w2p f_w2p);(try clear z_w2p);have z_w2p:=zz;clear zz;(try clear l_w2p);obtain ⟨x_w2p,f_w2p,l_w2p⟩:=bO z_w2p;have zz:=hQ hbw7 (b:=w3.heap.size);(first|(simp [go_sem,z_w3,l_w3,kw1w5,jw1w5,kw1pw5,jw1pw5,kw2w5,jw2w5,kw2pw5,jw2pw5,kw3w5,jw3w5,kw3pw5,jw3pw5] at zz)|(simp [go_sem,kw1w5,jw1w5,kw1pw5,jw1pw5,kw2w5,jw2w5,kw2pw5,jw2pw5,kw3w5,jw3w5,kw3pw5,jw3pw5] at zz));(try clear x_w3 f_w3);(try clear z_w3);have z_w3:=zz;clear zz;(try clear l_w3);obtain ⟨x_w3,f_w3,l_w3⟩:=bO z_w3;have zz:=hQ hbw7 (b:=w3.heap.size+1);(first|(simp [go_sem,z_w3p,l_w3p,kw1w5,jw1w5,kw1pw5,jw1pw5,kw2w5,jw2w5,kw2pw5,jw2pw5,kw3w5,jw3w5,kw3pw5,jw3pw5] at zz)|(simp [go_sem,kw1w5,jw1w5,kw1pw5,jw1pw5,kw2w5,jw2w5,kw2pw5,jw2pw5,kw3w5,jw3w5,kw3pw5,jw3pw5] at zz));(try clear x_w3p f_w3p);(try clear z_w3p);have z_w3p:=zz;clear zz;(try clear l_w3p);obtain ⟨x_w3p,f_w3p,l_w3p⟩:=bO z_w3p
          have kw1w7:w1.heap.size<w7.heap.size:=by omega
          have jw1w7:w1.heap.size<w7.heap.size+1:=by omega
          have kw1pw7:w1.heap.size+1<w7.heap.size:=by omega
          have jw1pw7:w1.heap.size+1<w7.heap.size+1:=by omega
          have kw2w7:w2.heap.size<w7.heap.size:=by omega
          have jw2w7:w2.heap.size<w7.heap.size+1:=by omega
          have kw2pw7:w2.heap.size+1<w7.heap.size:=by omega
          have jw2pw7:w2.heap.size+1<w7.heap.size+1:=by omega
          have kw3w7:w3.heap.size<w7.heap.size:=by omega
          have jw3w7:w3.heap.size<w7.heap.size+1:=by omega
          have kw3pw7:w3.heap.size+1<w7.heap.size:=by omega
          have jw3pw7:w3.heap.size+1<w7.heap.size+1:=by omega
          go_wp2
          go_ret
          exact ⟨rfl,by exact zB⟩
end Go.Proofs.YtkiingmgpobgnaaGreat
set_option maxRecDepth 100000
set_option linter.unusedSimpArgs false
set_option linter.unusedVariables false
namespace Go.Proofs.YtkiingmgpobgnaaGreat
open Go.ChangeShapes Go.WideShapes Go.ChangeAt Go.RowKit Go.Deep
theorem own:ownKnob Tryz.prog.godebug=none:=by kernel_rfl
theorem laidOut:laidOutB Tryz.prog=true:=by kernel_rfl
section
variable {H:Type} {enc:TypeId × Value→H} {P:Program} {w:World} {spare:Nat→Bool} {held:Bool}
/-- A slice of elements that can be read lies in memory as said. -/
theorem dSlice {α:Type} (k:Nat) (val:α→Nat→Value) (Q:α→Prop) (d0:α) {t e:TypeId} (ht:P.underlying t=some (.slice e)) (hk:P.cellsOf e=k) (hk0:0<k)
    (dec:∀ (fuel:Nat) (cs:List Value) (x:DataW H × List MemPlace),DataW.trod enc P w 0 spare held fuel e cs=some x→∃ c:α,Q c∧∀ j,j<k→cs[j]?=some (val c j))
    {fuel:Nat} {cs:List Value} {x:DataW H × List MemPlace} (h:DataW.trod enc P w 0 spare held fuel t cs=some x) :
    ∃ (a:Option Addr) (l:List α) (cap:Nat),cs=[.slice a l.length cap]∧l.length≤cap∧cap≤maxLen∧(∀ c ∈ l,Q c)∧Seg w w.heap.size a l.length k (fun i j=>val (l.getD i d0) j):=by
  rcases open_slice ht h with ⟨hcs,_⟩|⟨ad,len,cap,m,n,D,Pl,hcs,_,hl,hm,hmm,_,hi⟩
  · exact ⟨none,[],0,hcs,Nat.le_refl _,Nat.zero_le _,by simp,.inl rfl⟩
  · have hlm:len≤m:=by rw [hmm];split <;> omega
    have hx:∀ i:Nat,∃ c:α,i<len→(Q c∧∀ j,j<k→w.cell? (ad.add (i*k+j))=some (val c j)):=by
      intro i
      by_cases hlt:i<len
      · obtain ⟨cs',hc,htr⟩:=hi i (by omega)
        rw [hk] at hc
        obtain ⟨_,_,hat⟩:=World.cells?_some hc
        obtain ⟨c,hq,hv⟩:=dec _ _ _ htr
        refine ⟨c,fun _=>⟨hq,fun j hj=>?_⟩⟩
        rw [← Go.Deep.add_add,hat j hj,hv j hj]
      · exact ⟨d0,fun h=>absurd h hlt⟩
    obtain ⟨g,hg⟩:=Classical.axiomOfChoice hx
    refine ⟨some ad,(List.range len).map g,cap,by simpa using hcs,by simpa using hl,hm,?_,?_⟩
    · intro c hc
      obtain ⟨i,hi',rfl⟩:=List.mem_map.1 hc
      exact (hg i (List.mem_range.1 hi')).1
    · by_cases h0:len=0
      · exact .inl (by simpa using h0)
      · obtain ⟨b,off,spot⟩:=ad
        have hz:=(hg 0 (by omega)).2 0 hk0
        have hspot:spot=none:=by simpa [Addr.add] using World.cell?_spot hz
        subst hspot
        refine .inr ⟨b,off,rfl,?_,fun i j hi' hj=>?_⟩
        · have:=block_lt_of_cell hz
          simpa [Addr.add] using this
        · have hlt:i<len:=by simpa using hi'
          have:=(hg i hlt).2 j hj
          rw [add_plain,← Nat.add_assoc] at this
          rw [this]
          simp [List.getD,hlt]
end
section
variable {H:Type} {enc:TypeId × Value→H} {P:Program} {w:World} {spare:Nat→Bool} {held:Bool}
end
def C3.wf (c:C3):Prop:=(Lit.int .i64 c.s).wf=true∧(Lit.int .i64 c.e).wf=true∧(Lit.int .i64 c.t).wf=true
section
variable {H:Type} {enc:TypeId × Value→H} {w:World} {spare:Nat→Bool} {held:Bool}
end
end Go.Proofs.YtkiingmgpobgnaaGreat
set_option maxRecDepth 100000
set_option linter.unusedSimpArgs false
set_option linter.unusedVariables false
namespace Go.Proofs.YtkiingmgpobgnaaGreat
open Go.ChangeShapes Go.WideShapes Go.ChangeAt Go.RowKit Go.Deep
section
variable {H:Type} {enc:TypeId × Value→H} {w:World} {spare:Nat→Bool} {held:Bool}
set_option maxRecDepth 100000 in
/-- Bytes as an argument. -/
theorem oBytes {r:Reach} {b0:Nat} {v:Value} {d:DataW H} {p:List MemPlace} (hv:Value.okWide Tryz.prog w r b0 22 v) (h:DataW.Trod enc Tryz.prog w 0 spare held 22 v d p) :
    ∃ (a:Option Addr) (n cap:Nat) (bs:Nat→Int),v=.slice a n cap∧n≤maxLen∧(∀ j,0≤bs j∧bs j≤255)∧Seg w w.heap.size a n 1 (fun j _=>.int .u8 (bs j)):=by
  obtain ⟨a,len,cap,rfl⟩:=okWide_slice Tryz.underlying22 hv
  obtain ⟨fuel,hf⟩:=h
  obtain ⟨a',l,cap',hcs,h1,h2,h3,h4⟩:=dSlice 1 (fun (c:Int) _=>.int .u8 c) (fun c=>0≤c∧c≤255) 0 Tryz.underlying22 (by kernel_rfl) (by decide) (fun fuel cs x hx=>by
    obtain ⟨c,rfl,_,hw⟩:=DataW.trod_int Tryz.underlying5 hx
    refine ⟨c,?_,fun j hj=>?_⟩
    · simp [Lit.wf,IntKind.min,IntKind.max,IntKind.signed,IntKind.bits] at hw;omega
    · have:j=0:=by omega
      subst this;rfl) hf
  simp [Value.cells] at hcs
  obtain ⟨rfl,rfl,rfl⟩:=hcs
  refine ⟨a,l.length,cap,fun j=>l.getD j 0,rfl,Nat.le_trans h1 h2,fun j=>?_,h4⟩
  by_cases hj:j<l.length
  · have:=h3 l[j] (List.getElem_mem hj)
    simpa [List.getD,hj] using this
  · have:l.getD j 0=0:=by simp [List.getD,Nat.le_of_not_lt hj]
    show 0≤l.getD j 0∧l.getD j 0≤255
    rw [this];omega
end
end Go.Proofs.YtkiingmgpobgnaaGreat
set_option linter.unusedSimpArgs false
set_option linter.unusedVariables false
namespace Go.Proofs.YtkiingmgpobgnaaGreat
open Go.ChangeShapes Go.WideShapes Go.ChangeAt Go.RowKit
set_option linter.unusedVariables false
namespace FnParks
set_option maxRecDepth 100000 in
theorem lifted (os:Os) (started:os.Started) (H:Type) (enc:TypeId × Value→H) :
    ReturnsInHanded {} Tryz.checked os 4 .any (Rows.fnParksSpec.pre6 enc Tryz.prog Tryz.f4 Rows.fnParksRow.domain false) (Rows.fnParksSpec.post enc Tryz.prog Tryz.f4 false true false false):=by
  refine returnsInHanded_of_change (C:=Tryz.checked) own started (by kernel_rfl) Tryz.func4
    (ChangeSpec.witness6 (enc:=enc) (C:=Tryz.checked) false ⟨#[],#[.slice none 0 0],[]⟩ 8 (by kernel_rfl) (by kernel_rfl) (by kernel_rfl) (by kernel_rfl)) ?_
  intro W base args ds gs before hval0 hW hcnd _
  have hval:∀ (j:Nat) t v,Tryz.f4.params[j]?=some t→args[j]?=some v→Value.okWide Tryz.prog W .any base t v:=hval0
  have hW':=hW
  obtain ⟨p,q,hA0,hV,rfl,hfz,hnd⟩:=hW
  have hA:DataW.TrodAll enc Tryz.prog W 0 (fun _=>true) true Tryz.f4.params.toList args.toList ds p:=hA0
  rw [Tryz.params4] at hA hval
  obtain ⟨v0,vs0,d0,ds0,p0,q0,hargs,rfl,rfl,h0,r0⟩:=trodAll_cons hA
  obtain ⟨rfl,rfl,rfl⟩:=trodAll_nil r0
  obtain rfl:args=#[v0]:=by cases args;simp_all
  obtain ⟨rfl,rfl⟩:=trodVars_none hV
  have k0:=h0
  have lt0:∀ x ∈ p0,x.block<W.heap.size:=by obtain ⟨m,hm⟩:=k0;exact DataW.trod_lt m _ _ _ hm
  obtain ⟨a0,n0,cap0,l0,rfl,m0,z0,S0⟩:=oBytes (hval 0 22 v0 rfl rfl) h0
  clear hA0 hval0
  refine (fnParks_any n0 cap0 a0 l0 W z0 S0).mono fun e W' ⟨he,bel⟩=>?_
  subst he
  exact ⟨_,rfl,_,_,_,[],_,[],hW',trodAll_mk1 (shut_bool Tryz.underlying4 _),(trodAll_cons_mk (Below.trod laidOut (by kernel_rfl) (of_decide_eq_true (by kernel_rfl)) k0 bel lt0) trodAll_mk0),rfl,bel.frame _,fun h=>by cases h⟩
theorem over:Rows.fnParksRow.holds Tryz.pinned (OpenSpec.ofChange Rows.fnParksSpec) :=
  OpenClaim.holds_of_wide 4 Tryz.f4 rfl rfl rfl rfl rfl rfl rfl ⟨rfl,rfl,rfl,rfl,rfl⟩ rfl rfl rfl rfl rfl (by kernel_rfl) Tryz.func4 (by kernel_rfl)
    (of_decide_eq_true (by kernel_rfl)) (by unfold Func.isWrapper;first|(rw [if_pos (by decide +kernel)];kernel_rfl)|(rw [if_neg (by decide +kernel)];exact ⟨rfl,rfl⟩))
    (fun os started H enc _=>lifted os started H enc)
end FnParks
/-- The statement. -/
theorem fnParks_proved:Rows.FnParksSaid:=FnParks.over

end Go.Proofs.YtkiingmgpobgnaaGreat
