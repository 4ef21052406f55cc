/-
  The exact law of ParkStep returns true, whatever it is called with, and turns nothing that was there; the lists hold at most as much as memory can hold.
  FnExactParkStep returns true for every channel and hand that it is called with, and turns nothing; no condition.
-/
import Derived.Test.YtkiingmgpobgnaaP01
import Derived.Test.YtkiingmgpobgnaaP08
import Derived.Test.YtkiingmgpobgnaaP07
import Derived.Test.YtkiingmgpobgnaaP06
import Derived.Deep.RegionHeld3
import Derived.Deep.DeepCutAuto
set_option linter.unusedSimpArgs false
set_option linter.unusedVariables false
namespace Go.Proofs.Ytkiingmgpobgnaa
open Go.RowKit
set_option linter.unusedSimpArgs false
attribute [local simp] bx_size
attribute [local go_sem ↓] zeroHand zeroChan toLHand toLChan toVHand toVChan storeHand storeChan storeHandC storeChanC
attribute [local go_sem ↓] toLHandL toLChanL
set_option maxRecDepth 100000 in
set_option maxHeartbeats 8000000 in
theorem exactParkStep_any (c:Ch) (h:Ha) (a b:Option Addr) (p q:Nat) (w:World) (h1:Seg w w.heap.size a c.cells.length 3 (cellF c.cells)) (h2:Seg w w.heap.size b c.words.length 1 (intF c.words)) (m1:c.cells.length≤maxLen) (m2:c.words.length≤maxLen) :
    Calls Try.prog 4 #[.agg (cvals c (.slice a c.cells.length p) (.slice b c.words.length q)),.agg (hvals h)] w fun r w'=>r=.returned (.bool true)∧Below w.heap.size w w':=by
  have H1:=Lib.hid h1
  have H2:=Lib.hid h2
  have M1:=Lib.hid m1
  have M2:=Lib.hid m2
  clear h1 h2 m1 m2
  by_cases hl:leftC 1048576 c<0
  · go_enter Try.func4,Try.ntmps4
    go_wp2_with fail
    refine (szChan_any c a b p q 1048576 _ (by omega) (by omega) M1.out M2.out).mono ?_
    rintro _ w1 ⟨rfl,hb1⟩
    have hB1:Below w.heap.size w w1:=bT (by exact zB) hb1
    go_wp2
    go_ret
    exact ⟨rfl,hB1⟩
  · obtain ⟨n1,n2⟩:=left_len hl
    have n3:(parkStep c h).1.cells.length≤1048576:=(len_park c h).1 n1
    have n4:(parkStep c h).1.words.length≤1048576:=(len_park c h).2 n2
    have hs:=fun a b p q w h1 z1 h2 z2=>sParkStep_any c h a b p q w h1 z1 h2 z2
    have hi:=fun a b p q w h1 z1 h2 z2=>parkStepI_any c h a b p q w h1 z1 h2 z2 M1.out M2.out
    generalize parkStep c h=x at *
    have HS:=Lib.hid hs
    have HI:=Lib.hid hi
    clear hs hi
    have hk0:¬ 1+3*(c.cells.length:Int)+c.words.length<0:=by omega
    have hk1:¬ 1+3*(x.1.cells.length:Int)+x.1.words.length<0:=by omega
    go_enter Try.func4,Try.ntmps4
    go_wp2_with fail
    refine (szChan_any c a b p q 1048576 _ (by omega) (by omega) M1.out M2.out).mono ?_
    rintro _ w1 ⟨rfl,hbw1⟩
    have hB1:Below w.heap.size w w1:=bT (by exact zB) hbw1
    have hC1:Below w.heap.size w w1:=bT (by exact zB) hbw1
    have hsw1:=hbw1.size;(try (simp at hsw1));have zz:=hQ hbw1 (b:=w.heap.size);(first|(simp [go_sem,z_w,l_w] at zz)|(simp [go_sem] at zz));(try clear x_w f_w);(try clear z_w);have z_w:=zz;clear zz;(try clear l_w);obtain ⟨x_w,f_w,l_w⟩:=bO z_w;have zz:=hQ hbw1 (b:=w.heap.size+1);(first|(simp [go_sem,z_wp,l_wp] at zz)|(simp [go_sem] at zz));(try clear x_wp f_wp);(try clear z_wp);have z_wp:=zz;clear zz;(try clear l_wp);obtain ⟨x_wp,f_wp,l_wp⟩:=bO z_wp
    clear hbw1
    go_upto_region 5 with fail
    refine wp_region_inv [[],[0],[],[2],[0,1,2,3],[0,1,2,3,4],[0,1,2,3,4,5],[0,1,2,3,4,5],[0,1,2,3,4,5],[],[],[0,1,2,3,4,5,6,9],[0,1,2,3,4,5,7,10],[0,1,2,3,4,5,8]] [25,26,27,28,29,24,30,31,32,6,7,8] (fun l s wx=>(Below w1.heap.size w1 wx)∧(l 0=true→s 25=.agg (cvals c (.slice a c.cells.length p) (.slice b c.words.length q)))∧(l 1=true→l 4=false→∃ g1 g2:Nat,s 26=.agg (cvals c (.slice (some ⟨g1,0,none⟩) c.cells.length c.cells.length) (.slice (some ⟨g2,0,none⟩) c.words.length c.words.length))∧Row wx g1 52 c.cells.length 3 (cellF c.cells)∧Row wx g2 2 c.words.length 1 (intF c.words))∧(l 2=true→s 27=.agg (hvals h))∧(l 3=true→s 28=.agg (hvals h))∧(l 4=true→s 29=.tuple #[.agg (cvals x.1 (s 1003) (s 1004)),.agg (hvals x.2.1),.bool x.2.2]∧OCells wx w1.heap.size (s 1003) x.1.cells∧OInts wx w1.heap.size (s 1004) x.1.words)∧(l 5=true→s 24=.tuple #[.agg (cvals x.1 (s 1003) (s 1004)),.agg (hvals x.2.1),.bool x.2.2])∧(l 6=true→s 30=.agg (cvals x.1 (s 1003) (s 1004)))∧(l 7=true→s 31=.agg (hvals x.2.1))∧(l 8=true→s 32=.bool x.2.2)∧(l 9=true→IsBox wx (s 6) w1.heap.size (cond (l 11) (cvals x.1 (s 1003) (s 1004)) (cvals Ch.zero (.slice none 0 0) (.slice none 0 0))) 33)∧(l 10=true→IsBox wx (s 7) w1.heap.size (cond (l 12) (hvals x.2.1) (hvals Ha.zero)) 36)∧(l 13=true→s 8=.bool x.2.2)) (by kernel_rfl) (by kernel_rfl) (by kernel_rfl) (fun s=>by (simp only [fill,fillA,List.setIfInBounds_toArray,List.set_cons_zero,List.set_cons_succ];rfl)) (fun s=>⟨(Below.refl _ _).drew,fun h=>absurd h Bool.false_ne_true,fun h=>absurd h Bool.false_ne_true,fun h=>absurd h Bool.false_ne_true,fun h=>absurd h Bool.false_ne_true,fun h=>absurd h Bool.false_ne_true,fun h=>absurd h Bool.false_ne_true,fun h=>absurd h Bool.false_ne_true,fun h=>absurd h Bool.false_ne_true,fun h=>absurd h Bool.false_ne_true,fun h=>absurd h Bool.false_ne_true,fun h=>absurd h Bool.false_ne_true,fun h=>absurd h Bool.false_ne_true⟩) ?_ ?_
    refine ⟨?_,?_,?_,?_,?_,?_,?_,?_,?_,?_,?_,?_,?_,?_,trivial⟩;rotate_left 14
    intro l s w5 hall hf
    have hB:=hf.1
    have X1:=(hf.2.2.2.2.2.1 (hall 4 rfl)).2.1
    have X2:=(hf.2.2.2.2.2.1 (hall 4 rfl)).2.2
    obtain ⟨b6,ea,lo_b6,z_b6⟩:=hf.2.2.2.2.2.2.2.2.2.2.1 (hall 9 rfl)
    obtain ⟨b7,eb,lo_b7,z_b7⟩:=hf.2.2.2.2.2.2.2.2.2.2.2.1 (hall 10 rfl)
    have ec:=hf.2.2.2.2.2.2.2.2.2.2.2.2 (hall 13 rfl)
    rw [hall 11 rfl] at z_b6
    rw [hall 12 rfl] at z_b7
    dsimp only [cond] at z_b6 z_b7
    simp only [ea,eb,ec]
    clear ea eb ec hf hall
    generalize s 1003=v1 at *
    generalize s 1004=v2 at *
    have hC5:Below w1.heap.size w1 w5:=hB
    have hB5:Below w.heap.size w w5:=bT hB1 hB
    clear hB
    obtain ⟨x_b6,f_b6,l_b6⟩:=bO z_b6
    obtain ⟨x_b7,f_b7,l_b7⟩:=bO z_b7
    have u_w:=l_wp
    have u_b6:=l_b6
    have u_b7:=l_b7
    have u_5:=hC5.size
    replace z_w:=hpS z_w hC5
    clear x_w f_w l_w
    obtain ⟨x_w,f_w,l_w⟩:=bO z_w
    replace z_wp:=hpS z_wp hC5
    clear x_wp f_wp l_wp
    obtain ⟨x_wp,f_wp,l_wp⟩:=bO z_wp
    have lX:∀ i,(v1.ownBlock=some i∨v2.ownBlock=some i)→i<w5.heap.size:=fun i hi=>hi.elim (fun h=>(X1.lt i h).2) (fun h=>(X2.lt i h).2)
    replace X1:=OCells.new X1
    replace X2:=OInts.new X2
    obtain ⟨xa,xc,rfl,_⟩:=X1.seg
    obtain ⟨xb,xd,rfl,_⟩:=X2.seg
    go_wp2_with fail
    refine (toChan_any c a b p q _ ((H1.out.below (by exact zB)).more (by (try simp) <;> omega)) ((H2.out.below (by exact zB)).more (by (try simp) <;> omega)) n1 n2).mono ?_
    rintro _ w6 ⟨⟨g3,g4,rfl,lg3,lg4,Rg3,Rg4⟩,hbw6⟩
    have hB6:Below w.heap.size w w6:=bT (by exact zB) hbw6
    have hC6:Below w5.heap.size w5 w6:=bT (by exact zB) hbw6
    replace X1:=X1.below hC6
    replace X2:=X2.below hC6
    have hsw6:=hbw6.size;(try (simp at hsw6));have zz:=hQ hbw6 (b:=w.heap.size);(first|(simp [go_sem,z_w,l_w] at zz)|(simp [go_sem] at zz));(try clear x_w f_w);(try clear z_w);have z_w:=zz;clear zz;(try clear l_w);obtain ⟨x_w,f_w,l_w⟩:=bO z_w;have zz:=hQ hbw6 (b:=w.heap.size+1);(first|(simp [go_sem,z_wp,l_wp] at zz)|(simp [go_sem] at zz));(try clear x_wp f_wp);(try clear z_wp);have z_wp:=zz;clear zz;(try clear l_wp);obtain ⟨x_wp,f_wp,l_wp⟩:=bO z_wp;have zz:=hQ hbw6 (b:=b6);(first|(simp [go_sem,z_b6,l_b6] at zz)|(simp [go_sem] at zz));(try clear x_b6 f_b6);(try clear z_b6);have z_b6:=zz;clear zz;(try clear l_b6);obtain ⟨x_b6,f_b6,l_b6⟩:=bO z_b6;have zz:=hQ hbw6 (b:=b7);(first|(simp [go_sem,z_b7,l_b7] at zz)|(simp [go_sem] at zz));(try clear x_b7 f_b7);(try clear z_b7);have z_b7:=zz;clear zz;(try clear l_b7);obtain ⟨x_b7,f_b7,l_b7⟩:=bO z_b7
    clear hbw6
    have bg3:=Rg3.lt
    have bg4:=Rg4.lt
    have hne:g3≠g4:=row_ne Rg3 Rg4 (by decide)
    try simp at lg3 lg4
    go_upto_region 7 with fail
    generalize hw7:World.alloc w6 _=w7
    have z_w6:hp w7 w6.heap.size=some (.cells (cvals c (.slice (some ⟨g3,0,none⟩) c.cells.length c.cells.length) (.slice (some ⟨g4,0,none⟩) c.words.length c.words.length)) 33):=by rw [← hw7];simp [go_sem] <;> rfl
    have hC7:Below w6.heap.size w6 w7:=by rw [← hw7];exact belowAlloc _ _
    clear hw7
    have hB7:Below w.heap.size w w7:=bT hB6 hC7
    have C3:NewC w7 w.heap.size (.slice (some ⟨g3,0,none⟩) c.cells.length c.cells.length) c.cells:=.inr ⟨g3,_,rfl,by have:=hB5.size;omega,(Rg3.belowS hC7).lie⟩
    have C4:NewI w7 w.heap.size (.slice (some ⟨g4,0,none⟩) c.words.length c.words.length) c.words:=.inr ⟨g4,_,rfl,by have:=hB5.size;omega,(Rg4.belowS hC7).lie⟩
    clear Rg3 Rg4
    have hs7:=hC7.size
    have u_6:=hC6.size
    have u_w6:=(bO z_w6).2.2
    obtain ⟨x_w6,f_w6,l_w6⟩:=bO z_w6
    replace X1:=X1.below hC7
    replace X2:=X2.below hC7
    replace z_w:=hpS z_w hC7
    clear x_w f_w l_w
    obtain ⟨x_w,f_w,l_w⟩:=bO z_w
    replace z_wp:=hpS z_wp hC7
    clear x_wp f_wp l_wp
    obtain ⟨x_wp,f_wp,l_wp⟩:=bO z_wp
    replace z_b6:=hpS z_b6 hC7
    clear x_b6 f_b6 l_b6
    obtain ⟨x_b6,f_b6,l_b6⟩:=bO z_b6
    replace z_b7:=hpS z_b7 hC7
    clear x_b7 f_b7 l_b7
    obtain ⟨x_b7,f_b7,l_b7⟩:=bO z_b7
    refine wp_region_inv [[],[],[1],[0,1,2],[0,1,2,3],[0,1,2,3,4],[0,1,2,3,4],[0,1,2,3,4],[],[],[0,1,2,3,4,5,8],[0,1,2,3,4,6,9],[0,1,2,3,4,7]] [36,37,38,39,35,40,41,42,10,11,12] (fun l s wx=>(Below w7.heap.size w7 wx)∧(l 0=true→s 36=.agg (cvals c (.slice (some ⟨g3,0,none⟩) c.cells.length c.cells.length) (.slice (some ⟨g4,0,none⟩) c.words.length c.words.length)))∧(l 1=true→s 37=.agg (hvals h))∧(l 2=true→s 38=.agg (hvals h))∧(l 3=true→s 39=.tuple #[.agg (cvals x.1 (s 1003) (s 1004)),.agg (hvals x.2.1),.bool x.2.2]∧OCells wx w7.heap.size (s 1003) x.1.cells∧OInts wx w7.heap.size (s 1004) x.1.words)∧(l 4=true→s 35=.tuple #[.agg (cvals x.1 (s 1003) (s 1004)),.agg (hvals x.2.1),.bool x.2.2])∧(l 5=true→s 40=.agg (cvals x.1 (s 1003) (s 1004)))∧(l 6=true→s 41=.agg (hvals x.2.1))∧(l 7=true→s 42=.bool x.2.2)∧(l 8=true→IsBox wx (s 10) w7.heap.size (cond (l 10) (cvals x.1 (s 1003) (s 1004)) (cvals Ch.zero (.slice none 0 0) (.slice none 0 0))) 33)∧(l 9=true→IsBox wx (s 11) w7.heap.size (cond (l 11) (hvals x.2.1) (hvals Ha.zero)) 36)∧(l 12=true→s 12=.bool x.2.2)) (by kernel_rfl) (by kernel_rfl) (by kernel_rfl) (fun s=>by (simp only [fill,fillA,List.setIfInBounds_toArray,List.set_cons_zero,List.set_cons_succ];rfl)) (fun s=>⟨(Below.refl _ _).drew,fun h=>absurd h Bool.false_ne_true,fun h=>absurd h Bool.false_ne_true,fun h=>absurd h Bool.false_ne_true,fun h=>absurd h Bool.false_ne_true,fun h=>absurd h Bool.false_ne_true,fun h=>absurd h Bool.false_ne_true,fun h=>absurd h Bool.false_ne_true,fun h=>absurd h Bool.false_ne_true,fun h=>absurd h Bool.false_ne_true,fun h=>absurd h Bool.false_ne_true,fun h=>absurd h Bool.false_ne_true⟩) ?_ ?_
    refine ⟨?_,?_,?_,?_,?_,?_,?_,?_,?_,?_,?_,?_,?_,trivial⟩;rotate_left 13
    intro l s w8 hall hf
    have hB:=hf.1
    have Y1:=(hf.2.2.2.2.1 (hall 3 rfl)).2.1
    have Y2:=(hf.2.2.2.2.1 (hall 3 rfl)).2.2
    obtain ⟨b10,ea,lo_b10,z_b10⟩:=hf.2.2.2.2.2.2.2.2.2.1 (hall 8 rfl)
    obtain ⟨b11,eb,lo_b11,z_b11⟩:=hf.2.2.2.2.2.2.2.2.2.2.1 (hall 9 rfl)
    have ec:=hf.2.2.2.2.2.2.2.2.2.2.2 (hall 12 rfl)
    rw [hall 10 rfl] at z_b10
    rw [hall 11 rfl] at z_b11
    dsimp only [cond] at z_b10 z_b11
    simp only [ea,eb,ec]
    clear ea eb ec hf hall
    generalize s 1003=y1 at *
    generalize s 1004=y2 at *
    have hC8:Below w7.heap.size w7 w8:=hB
    have hB8:Below w.heap.size w w8:=bT hB7 hB
    clear hB
    have hs8:=hC8.size
    obtain ⟨x_b10,f_b10,l_b10⟩:=bO z_b10
    obtain ⟨x_b11,f_b11,l_b11⟩:=bO z_b11
    replace X1:=X1.below hC8
    replace X2:=X2.below hC8
    replace C3:=C3.below hC8
    replace C4:=C4.below hC8
    replace z_w:=hpS z_w hC8
    clear x_w f_w l_w
    obtain ⟨x_w,f_w,l_w⟩:=bO z_w
    replace z_wp:=hpS z_wp hC8
    clear x_wp f_wp l_wp
    obtain ⟨x_wp,f_wp,l_wp⟩:=bO z_wp
    replace z_b6:=hpS z_b6 hC8
    clear x_b6 f_b6 l_b6
    obtain ⟨x_b6,f_b6,l_b6⟩:=bO z_b6
    replace z_b7:=hpS z_b7 hC8
    clear x_b7 f_b7 l_b7
    obtain ⟨x_b7,f_b7,l_b7⟩:=bO z_b7
    replace z_w6:=hpS z_w6 hC8
    clear x_w6 f_w6 l_w6
    obtain ⟨x_w6,f_w6,l_w6⟩:=bO z_w6
    have yne:∀ i,y1.ownBlock=some i→y2.ownBlock≠some i:=OCells.ne Y1 Y2
    have yA:∀ i,(y1.ownBlock=some i∨y2.ownBlock=some i)→i≠b10∧i≠b11:=fun i hi=>hi.elim (fun h=>⟨own_offs Y1 z_b10 (by decide) i h,own_offs Y1 z_b11 (by decide) i h⟩) (fun h=>⟨own_offs Y2 z_b10 (by decide) i h,own_offs Y2 z_b11 (by decide) i h⟩)
    have lY:∀ i,(y1.ownBlock=some i∨y2.ownBlock=some i)→w7.heap.size≤i∧i<w8.heap.size:=fun i hi=>hi.elim (fun h=>Y1.lt i h) (fun h=>Y2.lt i h)
    replace Y1:=OCells.new Y1
    replace Y2:=OInts.new Y2
    obtain ⟨ya,yc,rfl,_⟩:=Y1.seg
    obtain ⟨yb,yd,rfl,_⟩:=Y2.seg
    go_wp2_with fail
    refine (eqChan_any x.1 _ _ _ _ _ _ _ _ _ (Y1.segAt (by exact zB)) (Y2.segAt (by exact zB)) (X1.segAt (by exact zB)) (X2.segAt (by exact zB)) n3 n4).mono ?_
    rintro _ w9 ⟨rfl,hbw9⟩
    have hB9:Below w.heap.size w w9:=bT (by exact zB) hbw9
    have hC9:Below w8.heap.size w8 w9:=bT (by exact zB) hbw9
    replace X1:=X1.below hC9
    replace X2:=X2.below hC9
    replace C3:=C3.below hC9
    replace C4:=C4.below hC9
    replace Y1:=Y1.below hC9
    replace Y2:=Y2.below hC9
    have hsw9:=hbw9.size;(try (simp at hsw9));have zz:=hQ hbw9 (b:=w.heap.size);(first|(simp [go_sem,z_w,l_w] at zz)|(simp [go_sem] at zz));(try clear x_w f_w);(try clear z_w);have z_w:=zz;clear zz;(try clear l_w);obtain ⟨x_w,f_w,l_w⟩:=bO z_w;have zz:=hQ hbw9 (b:=w.heap.size+1);(first|(simp [go_sem,z_wp,l_wp] at zz)|(simp [go_sem] at zz));(try clear x_wp f_wp);(try clear z_wp);have z_wp:=zz;clear zz;(try clear l_wp);obtain ⟨x_wp,f_wp,l_wp⟩:=bO z_wp;have zz:=hQ hbw9 (b:=b6);(first|(simp [go_sem,z_b6,l_b6] at zz)|(simp [go_sem] at zz));(try clear x_b6 f_b6);(try clear z_b6);have z_b6:=zz;clear zz;(try clear l_b6);obtain ⟨x_b6,f_b6,l_b6⟩:=bO z_b6;have zz:=hQ hbw9 (b:=b7);(first|(simp [go_sem,z_b7,l_b7] at zz)|(simp [go_sem] at zz));(try clear x_b7 f_b7);(try clear z_b7);have z_b7:=zz;clear zz;(try clear l_b7);obtain ⟨x_b7,f_b7,l_b7⟩:=bO z_b7;have zz:=hQ hbw9 (b:=w6.heap.size);(first|(simp [go_sem,z_w6,l_w6] at zz)|(simp [go_sem] at zz));(try clear x_w6 f_w6);(try clear z_w6);have z_w6:=zz;clear zz;(try clear l_w6);obtain ⟨x_w6,f_w6,l_w6⟩:=bO z_w6;have zz:=hQ hbw9 (b:=b10);(first|(simp [go_sem,z_b10,l_b10] at zz)|(simp [go_sem] at zz));(try clear x_b10 f_b10);(try clear z_b10);have z_b10:=zz;clear zz;(try clear l_b10);obtain ⟨x_b10,f_b10,l_b10⟩:=bO z_b10;have zz:=hQ hbw9 (b:=b11);(first|(simp [go_sem,z_b11,l_b11] at zz)|(simp [go_sem] at zz));(try clear x_b11 f_b11);(try clear z_b11);have z_b11:=zz;clear zz;(try clear l_b11);obtain ⟨x_b11,f_b11,l_b11⟩:=bO z_b11
    clear hbw9
    go_wp2_with fail
    refine (eqHand_any x.2.1 _).mono ?_
    rintro _ w10 ⟨rfl,hbw10⟩
    have hB10:Below w.heap.size w w10:=bT (by exact zB) hbw10
    have hC10:Below w9.heap.size w9 w10:=bT (by exact zB) hbw10
    replace X1:=X1.below hC10
    replace X2:=X2.below hC10
    replace C3:=C3.below hC10
    replace C4:=C4.below hC10
    replace Y1:=Y1.below hC10
    replace Y2:=Y2.below hC10
    have hsw10:=hbw10.size;(try (simp at hsw10));have zz:=hQ hbw10 (b:=w.heap.size);(first|(simp [go_sem,z_w,l_w] at zz)|(simp [go_sem] at zz));(try clear x_w f_w);(try clear z_w);have z_w:=zz;clear zz;(try clear l_w);obtain ⟨x_w,f_w,l_w⟩:=bO z_w;have zz:=hQ hbw10 (b:=w.heap.size+1);(first|(simp [go_sem,z_wp,l_wp] at zz)|(simp [go_sem] at zz));(try clear x_wp f_wp);(try clear z_wp);have z_wp:=zz;clear zz;(try clear l_wp);obtain ⟨x_wp,f_wp,l_wp⟩:=bO z_wp;have zz:=hQ hbw10 (b:=b6);(first|(simp [go_sem,z_b6,l_b6] at zz)|(simp [go_sem] at zz));(try clear x_b6 f_b6);(try clear z_b6);have z_b6:=zz;clear zz;(try clear l_b6);obtain ⟨x_b6,f_b6,l_b6⟩:=bO z_b6;have zz:=hQ hbw10 (b:=b7);(first|(simp [go_sem,z_b7,l_b7] at zz)|(simp [go_sem] at zz));(try clear x_b7 f_b7);(try clear z_b7);have z_b7:=zz;clear zz;(try clear l_b7);obtain ⟨x_b7,f_b7,l_b7⟩:=bO z_b7;have zz:=hQ hbw10 (b:=w6.heap.size);(first|(simp [go_sem,z_w6,l_w6] at zz)|(simp [go_sem] at zz));(try clear x_w6 f_w6);(try clear z_w6);have z_w6:=zz;clear zz;(try clear l_w6);obtain ⟨x_w6,f_w6,l_w6⟩:=bO z_w6;have zz:=hQ hbw10 (b:=b10);(first|(simp [go_sem,z_b10,l_b10] at zz)|(simp [go_sem] at zz));(try clear x_b10 f_b10);(try clear z_b10);have z_b10:=zz;clear zz;(try clear l_b10);obtain ⟨x_b10,f_b10,l_b10⟩:=bO z_b10;have zz:=hQ hbw10 (b:=b11);(first|(simp [go_sem,z_b11,l_b11] at zz)|(simp [go_sem] at zz));(try clear x_b11 f_b11);(try clear z_b11);have z_b11:=zz;clear zz;(try clear l_b11);obtain ⟨x_b11,f_b11,l_b11⟩:=bO z_b11
    clear hbw10
    go_upto_region 10 with fail
    refine wp_region_inv [[],[],[1],[0,1,2],[0,1,2,3]] [58,59,60,61,62] (fun l s wx=>(Below w10.heap.size w10 wx)∧(l 0=true→s 58=.agg (cvals c (.slice (some ⟨g3,0,none⟩) c.cells.length c.cells.length) (.slice (some ⟨g4,0,none⟩) c.words.length c.words.length)))∧(l 1=true→s 59=.agg (cvals c (.slice a c.cells.length p) (.slice b c.words.length q)))∧(l 2=true→∃ g1 g2:Nat,s 60=.agg (cvals c (.slice (some ⟨g1,0,none⟩) c.cells.length c.cells.length) (.slice (some ⟨g2,0,none⟩) c.words.length c.words.length))∧Row wx g1 52 c.cells.length 3 (cellF c.cells)∧Row wx g2 2 c.words.length 1 (intF c.words))∧(l 3=true→s 61=.bool true)∧(l 4=true→s 62=.bool false)) (by kernel_rfl) (by kernel_rfl) (by kernel_rfl) (fun s=>by (simp only [fill,fillA,List.setIfInBounds_toArray,List.set_cons_zero,List.set_cons_succ];rfl)) (fun s=>⟨(Below.refl _ _).drew,fun h=>absurd h Bool.false_ne_true,fun h=>absurd h Bool.false_ne_true,fun h=>absurd h Bool.false_ne_true,fun h=>absurd h Bool.false_ne_true,fun h=>absurd h Bool.false_ne_true⟩) ?_ ?_
    refine ⟨?_,?_,?_,?_,?_,trivial⟩;rotate_left 5
    intro l s w11 hall hf
    have hB:=hf.1
    have ec:=hf.2.2.2.2.2 (hall 4 rfl)
    simp only [ec]
    clear ec hf hall
    have hC11:Below w10.heap.size w10 w11:=hB
    have hB11:Below w.heap.size w w11:=bT hB10 hB
    clear hB
    have hs11:=hC11.size
    replace X1:=X1.below hC11
    replace X2:=X2.below hC11
    replace C3:=C3.below hC11
    replace C4:=C4.below hC11
    replace Y1:=Y1.below hC11
    replace Y2:=Y2.below hC11
    replace z_w:=hpS z_w hC11
    clear x_w f_w l_w
    obtain ⟨x_w,f_w,l_w⟩:=bO z_w
    replace z_wp:=hpS z_wp hC11
    clear x_wp f_wp l_wp
    obtain ⟨x_wp,f_wp,l_wp⟩:=bO z_wp
    replace z_b6:=hpS z_b6 hC11
    clear x_b6 f_b6 l_b6
    obtain ⟨x_b6,f_b6,l_b6⟩:=bO z_b6
    replace z_b7:=hpS z_b7 hC11
    clear x_b7 f_b7 l_b7
    obtain ⟨x_b7,f_b7,l_b7⟩:=bO z_b7
    replace z_w6:=hpS z_w6 hC11
    clear x_w6 f_w6 l_w6
    obtain ⟨x_w6,f_w6,l_w6⟩:=bO z_w6
    replace z_b10:=hpS z_b10 hC11
    clear x_b10 f_b10 l_b10
    obtain ⟨x_b10,f_b10,l_b10⟩:=bO z_b10
    replace z_b11:=hpS z_b11 hC11
    clear x_b11 f_b11 l_b11
    obtain ⟨x_b11,f_b11,l_b11⟩:=bO z_b11
    have bb6:w1.heap.size≤b6:=lo_b6
    have q1:=hB1.size
    have q5:=hC5.size
    have q6:=hC6.size
    go_wp2_with fail
    refine (markChan_any c.cells.length c.words.length (cellF c.cells) (intF c.words) _ _ _ _ _ _ _ _ 1 (1+3*c.cells.length) _ (C3.below (by exact zB)) (C4.below (by exact zB)) (fun i h1 h2=>hne (by simp [Value.ownBlock] at h1 h2;omega)) (by omega) (by omega) rfl n1 n2).mono ?_
    rintro _ w12 ⟨rfl,_,_,hO⟩
    replace hO:Onl (some g3) (some g4) w11 w12:=onlT (onlB (by exact zB)) hO
    have hs12:=hO.2.2.2.1
    have hB12:Below w.heap.size w w12:=bOnl hB11 hO (fun i h=>by simp at h;omega) (fun i h=>by simp at h;omega)
    replace X1:=X1.keptO hO (fun i h e=>by have:=lX i (.inl h);simp at e;omega) (fun i h e=>by have:=lX i (.inl h);simp at e;omega)
    replace X2:=X2.keptO hO (fun i h e=>by have:=lX i (.inr h);simp at e;omega) (fun i h e=>by have:=lX i (.inr h);simp at e;omega)
    replace Y1:=Y1.keptO hO (fun i h e=>by have:=lY i (.inl h);simp at e;omega) (fun i h e=>by have:=lY i (.inl h);simp at e;omega)
    replace Y2:=Y2.keptO hO (fun i h e=>by have:=lY i (.inr h);simp at e;omega) (fun i h e=>by have:=lY i (.inr h);simp at e;omega)
    replace z_w:=(onlHp hO l_w (by simp;omega) (by simp;omega)).trans z_w
    clear x_w f_w l_w
    obtain ⟨x_w,f_w,l_w⟩:=bO z_w
    replace z_wp:=(onlHp hO l_wp (by simp;omega) (by simp;omega)).trans z_wp
    clear x_wp f_wp l_wp
    obtain ⟨x_wp,f_wp,l_wp⟩:=bO z_wp
    replace z_b6:=(onlHp hO l_b6 (by simp;omega) (by simp;omega)).trans z_b6
    clear x_b6 f_b6 l_b6
    obtain ⟨x_b6,f_b6,l_b6⟩:=bO z_b6
    replace z_b7:=(onlHp hO l_b7 (by simp;omega) (by simp;omega)).trans z_b7
    clear x_b7 f_b7 l_b7
    obtain ⟨x_b7,f_b7,l_b7⟩:=bO z_b7
    replace z_w6:=(onlHp hO l_w6 (by simp;omega) (by simp;omega)).trans z_w6
    clear x_w6 f_w6 l_w6
    obtain ⟨x_w6,f_w6,l_w6⟩:=bO z_w6
    replace z_b10:=(onlHp hO l_b10 (by simp;omega) (by simp;omega)).trans z_b10
    clear x_b10 f_b10 l_b10
    obtain ⟨x_b10,f_b10,l_b10⟩:=bO z_b10
    replace z_b11:=(onlHp hO l_b11 (by simp;omega) (by simp;omega)).trans z_b11
    clear x_b11 f_b11 l_b11
    obtain ⟨x_b11,f_b11,l_b11⟩:=bO z_b11
    clear C3 C4 hO
    go_wp2_with fail
    refine (eqChan_any x.1 _ _ _ _ _ _ _ _ _ (Y1.segAt (by exact zB)) (Y2.segAt (by exact zB)) (X1.segAt (by exact zB)) (X2.segAt (by exact zB)) n3 n4).mono ?_
    rintro _ w13 ⟨rfl,hbw13⟩
    have hB13:Below w.heap.size w w13:=bT (by exact zB) hbw13
    have hC13:Below w12.heap.size w12 w13:=bT (by exact zB) hbw13
    replace X1:=X1.below hC13
    replace X2:=X2.below hC13
    replace Y1:=Y1.below hC13
    replace Y2:=Y2.below hC13
    have hsw13:=hbw13.size;(try (simp at hsw13));have zz:=hQ hbw13 (b:=w.heap.size);(first|(simp [go_sem,z_w,l_w] at zz)|(simp [go_sem] at zz));(try clear x_w f_w);(try clear z_w);have z_w:=zz;clear zz;(try clear l_w);obtain ⟨x_w,f_w,l_w⟩:=bO z_w;have zz:=hQ hbw13 (b:=w.heap.size+1);(first|(simp [go_sem,z_wp,l_wp] at zz)|(simp [go_sem] at zz));(try clear x_wp f_wp);(try clear z_wp);have z_wp:=zz;clear zz;(try clear l_wp);obtain ⟨x_wp,f_wp,l_wp⟩:=bO z_wp;have zz:=hQ hbw13 (b:=b6);(first|(simp [go_sem,z_b6,l_b6] at zz)|(simp [go_sem] at zz));(try clear x_b6 f_b6);(try clear z_b6);have z_b6:=zz;clear zz;(try clear l_b6);obtain ⟨x_b6,f_b6,l_b6⟩:=bO z_b6;have zz:=hQ hbw13 (b:=b7);(first|(simp [go_sem,z_b7,l_b7] at zz)|(simp [go_sem] at zz));(try clear x_b7 f_b7);(try clear z_b7);have z_b7:=zz;clear zz;(try clear l_b7);obtain ⟨x_b7,f_b7,l_b7⟩:=bO z_b7;have zz:=hQ hbw13 (b:=w6.heap.size);(first|(simp [go_sem,z_w6,l_w6] at zz)|(simp [go_sem] at zz));(try clear x_w6 f_w6);(try clear z_w6);have z_w6:=zz;clear zz;(try clear l_w6);obtain ⟨x_w6,f_w6,l_w6⟩:=bO z_w6;have zz:=hQ hbw13 (b:=b10);(first|(simp [go_sem,z_b10,l_b10] at zz)|(simp [go_sem] at zz));(try clear x_b10 f_b10);(try clear z_b10);have z_b10:=zz;clear zz;(try clear l_b10);obtain ⟨x_b10,f_b10,l_b10⟩:=bO z_b10;have zz:=hQ hbw13 (b:=b11);(first|(simp [go_sem,z_b11,l_b11] at zz)|(simp [go_sem] at zz));(try clear x_b11 f_b11);(try clear z_b11);have z_b11:=zz;clear zz;(try clear l_b11);obtain ⟨x_b11,f_b11,l_b11⟩:=bO z_b11
    clear hbw13
    go_wp2_with fail
    refine (eqHand_any x.2.1 _).mono ?_
    rintro _ w14 ⟨rfl,hbw14⟩
    have hB14:Below w.heap.size w w14:=bT (by exact zB) hbw14
    have hC14:Below w13.heap.size w13 w14:=bT (by exact zB) hbw14
    replace X1:=X1.below hC14
    replace X2:=X2.below hC14
    replace Y1:=Y1.below hC14
    replace Y2:=Y2.below hC14
    have hsw14:=hbw14.size;(try (simp at hsw14));have zz:=hQ hbw14 (b:=w.heap.size);(first|(simp [go_sem,z_w,l_w] at zz)|(simp [go_sem] at zz));(try clear x_w f_w);(try clear z_w);have z_w:=zz;clear zz;(try clear l_w);obtain ⟨x_w,f_w,l_w⟩:=bO z_w;have zz:=hQ hbw14 (b:=w.heap.size+1);(first|(simp [go_sem,z_wp,l_wp] at zz)|(simp [go_sem] at zz));(try clear x_wp f_wp);(try clear z_wp);have z_wp:=zz;clear zz;(try clear l_wp);obtain ⟨x_wp,f_wp,l_wp⟩:=bO z_wp;have zz:=hQ hbw14 (b:=b6);(first|(simp [go_sem,z_b6,l_b6] at zz)|(simp [go_sem] at zz));(try clear x_b6 f_b6);(try clear z_b6);have z_b6:=zz;clear zz;(try clear l_b6);obtain ⟨x_b6,f_b6,l_b6⟩:=bO z_b6;have zz:=hQ hbw14 (b:=b7);(first|(simp [go_sem,z_b7,l_b7] at zz)|(simp [go_sem] at zz));(try clear x_b7 f_b7);(try clear z_b7);have z_b7:=zz;clear zz;(try clear l_b7);obtain ⟨x_b7,f_b7,l_b7⟩:=bO z_b7;have zz:=hQ hbw14 (b:=w6.heap.size);(first|(simp [go_sem,z_w6,l_w6] at zz)|(simp [go_sem] at zz));(try clear x_w6 f_w6);(try clear z_w6);have z_w6:=zz;clear zz;(try clear l_w6);obtain ⟨x_w6,f_w6,l_w6⟩:=bO z_w6;have zz:=hQ hbw14 (b:=b10);(first|(simp [go_sem,z_b10,l_b10] at zz)|(simp [go_sem] at zz));(try clear x_b10 f_b10);(try clear z_b10);have z_b10:=zz;clear zz;(try clear l_b10);obtain ⟨x_b10,f_b10,l_b10⟩:=bO z_b10;have zz:=hQ hbw14 (b:=b11);(first|(simp [go_sem,z_b11,l_b11] at zz)|(simp [go_sem] at zz));(try clear x_b11 f_b11);(try clear z_b11);have z_b11:=zz;clear zz;(try clear l_b11);obtain ⟨x_b11,f_b11,l_b11⟩:=bO z_b11
    clear hbw14
    go_wp2_with fail
    refine (markChan_any x.1.cells.length x.1.words.length (cellF x.1.cells) (intF x.1.words) _ _ _ _ _ _ _ _ 1 (1+3*x.1.cells.length) _ (Y1.below (by exact zB)) (Y2.below (by exact zB)) yne (by omega) (by omega) rfl n3 n4).mono ?_
    rintro _ w15 ⟨rfl,Z1,Z2,hO⟩
    replace hO:Onl _ _ w14 w15:=onlT (onlB (by exact zB)) hO
    have hs15:=hO.2.2.2.1
    have hB15:Below w.heap.size w w15:=bOnl hB14 hO (fun i h=>by have:=lY i (.inl h);omega) (fun i h=>by have:=lY i (.inr h);omega)
    replace X1:=X1.keptO hO (fun i h e=>by have:=lX i (.inl h);have:=lY i (.inl e);omega) (fun i h e=>by have:=lX i (.inl h);have:=lY i (.inr e);omega)
    replace X2:=X2.keptO hO (fun i h e=>by have:=lX i (.inr h);have:=lY i (.inl e);omega) (fun i h e=>by have:=lX i (.inr h);have:=lY i (.inr e);omega)
    replace z_w:=(onlHp hO l_w (fun e=>by have:=lY _ (.inl e.symm);omega) (fun e=>by have:=lY _ (.inr e.symm);omega)).trans z_w
    clear x_w f_w l_w
    obtain ⟨x_w,f_w,l_w⟩:=bO z_w
    replace z_wp:=(onlHp hO l_wp (fun e=>by have:=lY _ (.inl e.symm);omega) (fun e=>by have:=lY _ (.inr e.symm);omega)).trans z_wp
    clear x_wp f_wp l_wp
    obtain ⟨x_wp,f_wp,l_wp⟩:=bO z_wp
    replace z_b6:=(onlHp hO l_b6 (fun e=>by have:=lY _ (.inl e.symm);omega) (fun e=>by have:=lY _ (.inr e.symm);omega)).trans z_b6
    clear x_b6 f_b6 l_b6
    obtain ⟨x_b6,f_b6,l_b6⟩:=bO z_b6
    replace z_b7:=(onlHp hO l_b7 (fun e=>by have:=lY _ (.inl e.symm);omega) (fun e=>by have:=lY _ (.inr e.symm);omega)).trans z_b7
    clear x_b7 f_b7 l_b7
    obtain ⟨x_b7,f_b7,l_b7⟩:=bO z_b7
    replace z_w6:=(onlHp hO l_w6 (fun e=>by have:=lY _ (.inl e.symm);omega) (fun e=>by have:=lY _ (.inr e.symm);omega)).trans z_w6
    clear x_w6 f_w6 l_w6
    obtain ⟨x_w6,f_w6,l_w6⟩:=bO z_w6
    replace z_b10:=(onlHp hO l_b10 (fun e=>(yA _ (.inl e.symm)).1 rfl) (fun e=>(yA _ (.inr e.symm)).1 rfl)).trans z_b10
    clear x_b10 f_b10 l_b10
    obtain ⟨x_b10,f_b10,l_b10⟩:=bO z_b10
    replace z_b11:=(onlHp hO l_b11 (fun e=>(yA _ (.inl e.symm)).2 rfl) (fun e=>(yA _ (.inr e.symm)).2 rfl)).trans z_b11
    clear x_b11 f_b11 l_b11
    obtain ⟨x_b11,f_b11,l_b11⟩:=bO z_b11
    clear Y1 Y2 hO
    have Y1:=Z1
    have Y2:=Z2
    clear Z1 Z2
    go_wp2_with fail
    refine (heldChan_any x.1.cells.length x.1.words.length _ _ _ _ _ _ _ _ 1 (1+3*x.1.cells.length) _ (Y1.below (by exact zB)) (Y2.below (by exact zB)) (by omega) (by omega) rfl n3 n4).mono ?_
    rintro _ w16 ⟨rfl,hbw16⟩
    have hB16:Below w.heap.size w w16:=bT (by exact zB) hbw16
    have hC16:Below w15.heap.size w15 w16:=bT (by exact zB) hbw16
    replace X1:=X1.below hC16
    replace X2:=X2.below hC16
    replace Y1:=Y1.below hC16
    replace Y2:=Y2.below hC16
    have hsw16:=hbw16.size;(try (simp at hsw16));have zz:=hQ hbw16 (b:=w.heap.size);(first|(simp [go_sem,z_w,l_w] at zz)|(simp [go_sem] at zz));(try clear x_w f_w);(try clear z_w);have z_w:=zz;clear zz;(try clear l_w);obtain ⟨x_w,f_w,l_w⟩:=bO z_w;have zz:=hQ hbw16 (b:=w.heap.size+1);(first|(simp [go_sem,z_wp,l_wp] at zz)|(simp [go_sem] at zz));(try clear x_wp f_wp);(try clear z_wp);have z_wp:=zz;clear zz;(try clear l_wp);obtain ⟨x_wp,f_wp,l_wp⟩:=bO z_wp;have zz:=hQ hbw16 (b:=b6);(first|(simp [go_sem,z_b6,l_b6] at zz)|(simp [go_sem] at zz));(try clear x_b6 f_b6);(try clear z_b6);have z_b6:=zz;clear zz;(try clear l_b6);obtain ⟨x_b6,f_b6,l_b6⟩:=bO z_b6;have zz:=hQ hbw16 (b:=b7);(first|(simp [go_sem,z_b7,l_b7] at zz)|(simp [go_sem] at zz));(try clear x_b7 f_b7);(try clear z_b7);have z_b7:=zz;clear zz;(try clear l_b7);obtain ⟨x_b7,f_b7,l_b7⟩:=bO z_b7;have zz:=hQ hbw16 (b:=w6.heap.size);(first|(simp [go_sem,z_w6,l_w6] at zz)|(simp [go_sem] at zz));(try clear x_w6 f_w6);(try clear z_w6);have z_w6:=zz;clear zz;(try clear l_w6);obtain ⟨x_w6,f_w6,l_w6⟩:=bO z_w6;have zz:=hQ hbw16 (b:=b10);(first|(simp [go_sem,z_b10,l_b10] at zz)|(simp [go_sem] at zz));(try clear x_b10 f_b10);(try clear z_b10);have z_b10:=zz;clear zz;(try clear l_b10);obtain ⟨x_b10,f_b10,l_b10⟩:=bO z_b10;have zz:=hQ hbw16 (b:=b11);(first|(simp [go_sem,z_b11,l_b11] at zz)|(simp [go_sem] at zz));(try clear x_b11 f_b11);(try clear z_b11);have z_b11:=zz;clear zz;(try clear l_b11);obtain ⟨x_b11,f_b11,l_b11⟩:=bO z_b11
    clear hbw16
    go_upto_region 24 with fail
    refine wp_region_inv [[],[0],[],[2],[0,1,2,3],[0,1,2,3,4],[0,1,2,3,4,5],[0,1,2,3,4,5],[0,1,2,3,4,5],[],[],[0,1,2,3,4,5,6,9],[0,1,2,3,4,5,7,10],[0,1,2,3,4,5,8]] [97,98,99,100,101,96,102,103,104,16,17,18] (fun l s wx=>(Below w16.heap.size w16 wx)∧(l 0=true→s 97=.agg (cvals c (.slice a c.cells.length p) (.slice b c.words.length q)))∧(l 1=true→l 4=false→∃ g1 g2:Nat,s 98=.agg (cvals c (.slice (some ⟨g1,0,none⟩) c.cells.length c.cells.length) (.slice (some ⟨g2,0,none⟩) c.words.length c.words.length))∧Row wx g1 52 c.cells.length 3 (cellF c.cells)∧Row wx g2 2 c.words.length 1 (intF c.words))∧(l 2=true→s 99=.agg (hvals h))∧(l 3=true→s 100=.agg (hvals h))∧(l 4=true→s 101=.tuple #[.agg (cvals x.1 (s 1003) (s 1004)),.agg (hvals x.2.1),.bool x.2.2]∧OCells wx w16.heap.size (s 1003) x.1.cells∧OInts wx w16.heap.size (s 1004) x.1.words)∧(l 5=true→s 96=.tuple #[.agg (cvals x.1 (s 1003) (s 1004)),.agg (hvals x.2.1),.bool x.2.2])∧(l 6=true→s 102=.agg (cvals x.1 (s 1003) (s 1004)))∧(l 7=true→s 103=.agg (hvals x.2.1))∧(l 8=true→s 104=.bool x.2.2)∧(l 9=true→IsBox wx (s 16) w16.heap.size (cond (l 11) (cvals x.1 (s 1003) (s 1004)) (cvals Ch.zero (.slice none 0 0) (.slice none 0 0))) 33)∧(l 10=true→IsBox wx (s 17) w16.heap.size (cond (l 12) (hvals x.2.1) (hvals Ha.zero)) 36)∧(l 13=true→s 18=.bool x.2.2)) (by kernel_rfl) (by kernel_rfl) (by kernel_rfl) (fun s=>by (simp only [fill,fillA,List.setIfInBounds_toArray,List.set_cons_zero,List.set_cons_succ];rfl)) (fun s=>⟨(Below.refl _ _).drew,fun h=>absurd h Bool.false_ne_true,fun h=>absurd h Bool.false_ne_true,fun h=>absurd h Bool.false_ne_true,fun h=>absurd h Bool.false_ne_true,fun h=>absurd h Bool.false_ne_true,fun h=>absurd h Bool.false_ne_true,fun h=>absurd h Bool.false_ne_true,fun h=>absurd h Bool.false_ne_true,fun h=>absurd h Bool.false_ne_true,fun h=>absurd h Bool.false_ne_true,fun h=>absurd h Bool.false_ne_true,fun h=>absurd h Bool.false_ne_true⟩) ?_ ?_
    refine ⟨?_,?_,?_,?_,?_,?_,?_,?_,?_,?_,?_,?_,?_,?_,trivial⟩;rotate_left 14
    intro l s w17 hall hf
    have hB:=hf.1
    have U1:=(hf.2.2.2.2.2.1 (hall 4 rfl)).2.1
    have U2:=(hf.2.2.2.2.2.1 (hall 4 rfl)).2.2
    obtain ⟨b16,ea,lo_b16,z_b16⟩:=hf.2.2.2.2.2.2.2.2.2.2.1 (hall 9 rfl)
    obtain ⟨b17,eb,lo_b17,z_b17⟩:=hf.2.2.2.2.2.2.2.2.2.2.2.1 (hall 10 rfl)
    have ec:=hf.2.2.2.2.2.2.2.2.2.2.2.2 (hall 13 rfl)
    rw [hall 11 rfl] at z_b16
    rw [hall 12 rfl] at z_b17
    dsimp only [cond] at z_b16 z_b17
    simp only [ea,eb,ec]
    clear ea eb ec hf hall
    generalize s 1003=u1 at *
    generalize s 1004=u2 at *
    have hC17:Below w16.heap.size w16 w17:=hB
    have hB17:Below w.heap.size w w17:=bT hB16 hB
    clear hB
    have hs17:=hC17.size
    obtain ⟨x_b16,f_b16,l_b16⟩:=bO z_b16
    obtain ⟨x_b17,f_b17,l_b17⟩:=bO z_b17
    replace X1:=X1.below hC17
    replace X2:=X2.below hC17
    replace Y1:=Y1.below hC17
    replace Y2:=Y2.below hC17
    replace z_w:=hpS z_w hC17
    clear x_w f_w l_w
    obtain ⟨x_w,f_w,l_w⟩:=bO z_w
    replace z_wp:=hpS z_wp hC17
    clear x_wp f_wp l_wp
    obtain ⟨x_wp,f_wp,l_wp⟩:=bO z_wp
    replace z_b6:=hpS z_b6 hC17
    clear x_b6 f_b6 l_b6
    obtain ⟨x_b6,f_b6,l_b6⟩:=bO z_b6
    replace z_b7:=hpS z_b7 hC17
    clear x_b7 f_b7 l_b7
    obtain ⟨x_b7,f_b7,l_b7⟩:=bO z_b7
    replace z_w6:=hpS z_w6 hC17
    clear x_w6 f_w6 l_w6
    obtain ⟨x_w6,f_w6,l_w6⟩:=bO z_w6
    replace z_b10:=hpS z_b10 hC17
    clear x_b10 f_b10 l_b10
    obtain ⟨x_b10,f_b10,l_b10⟩:=bO z_b10
    replace z_b11:=hpS z_b11 hC17
    clear x_b11 f_b11 l_b11
    obtain ⟨x_b11,f_b11,l_b11⟩:=bO z_b11
    replace U1:=OCells.new U1
    replace U2:=OInts.new U2
    obtain ⟨ua,uc,rfl,_⟩:=U1.seg
    obtain ⟨ub,ud,rfl,_⟩:=U2.seg
    go_wp2_with fail
    refine (eqChan_any x.1 _ _ _ _ _ _ _ _ _ (U1.segAt (by exact zB)) (U2.segAt (by exact zB)) (X1.segAt (by exact zB)) (X2.segAt (by exact zB)) n3 n4).mono ?_
    rintro _ w18 ⟨rfl,hbw18⟩
    have hB18:Below w.heap.size w w18:=bT (by exact zB) hbw18
    have hC18:Below w17.heap.size w17 w18:=bT (by exact zB) hbw18
    replace X1:=X1.below hC18
    replace X2:=X2.below hC18
    replace Y1:=Y1.below hC18
    replace Y2:=Y2.below hC18
    replace U1:=U1.below hC18
    replace U2:=U2.below hC18
    have hsw18:=hbw18.size;(try (simp at hsw18));have zz:=hQ hbw18 (b:=w.heap.size);(first|(simp [go_sem,z_w,l_w] at zz)|(simp [go_sem] at zz));(try clear x_w f_w);(try clear z_w);have z_w:=zz;clear zz;(try clear l_w);obtain ⟨x_w,f_w,l_w⟩:=bO z_w;have zz:=hQ hbw18 (b:=w.heap.size+1);(first|(simp [go_sem,z_wp,l_wp] at zz)|(simp [go_sem] at zz));(try clear x_wp f_wp);(try clear z_wp);have z_wp:=zz;clear zz;(try clear l_wp);obtain ⟨x_wp,f_wp,l_wp⟩:=bO z_wp;have zz:=hQ hbw18 (b:=b6);(first|(simp [go_sem,z_b6,l_b6] at zz)|(simp [go_sem] at zz));(try clear x_b6 f_b6);(try clear z_b6);have z_b6:=zz;clear zz;(try clear l_b6);obtain ⟨x_b6,f_b6,l_b6⟩:=bO z_b6;have zz:=hQ hbw18 (b:=b7);(first|(simp [go_sem,z_b7,l_b7] at zz)|(simp [go_sem] at zz));(try clear x_b7 f_b7);(try clear z_b7);have z_b7:=zz;clear zz;(try clear l_b7);obtain ⟨x_b7,f_b7,l_b7⟩:=bO z_b7;have zz:=hQ hbw18 (b:=w6.heap.size);(first|(simp [go_sem,z_w6,l_w6] at zz)|(simp [go_sem] at zz));(try clear x_w6 f_w6);(try clear z_w6);have z_w6:=zz;clear zz;(try clear l_w6);obtain ⟨x_w6,f_w6,l_w6⟩:=bO z_w6;have zz:=hQ hbw18 (b:=b10);(first|(simp [go_sem,z_b10,l_b10] at zz)|(simp [go_sem] at zz));(try clear x_b10 f_b10);(try clear z_b10);have z_b10:=zz;clear zz;(try clear l_b10);obtain ⟨x_b10,f_b10,l_b10⟩:=bO z_b10;have zz:=hQ hbw18 (b:=b11);(first|(simp [go_sem,z_b11,l_b11] at zz)|(simp [go_sem] at zz));(try clear x_b11 f_b11);(try clear z_b11);have z_b11:=zz;clear zz;(try clear l_b11);obtain ⟨x_b11,f_b11,l_b11⟩:=bO z_b11;have zz:=hQ hbw18 (b:=b16);(first|(simp [go_sem,z_b16,l_b16] at zz)|(simp [go_sem] at zz));(try clear x_b16 f_b16);(try clear z_b16);have z_b16:=zz;clear zz;(try clear l_b16);obtain ⟨x_b16,f_b16,l_b16⟩:=bO z_b16;have zz:=hQ hbw18 (b:=b17);(first|(simp [go_sem,z_b17,l_b17] at zz)|(simp [go_sem] at zz));(try clear x_b17 f_b17);(try clear z_b17);have z_b17:=zz;clear zz;(try clear l_b17);obtain ⟨x_b17,f_b17,l_b17⟩:=bO z_b17
    clear hbw18
    go_wp2_with fail
    refine (eqHand_any x.2.1 _).mono ?_
    rintro _ w19 ⟨rfl,hbw19⟩
    have hB19:Below w.heap.size w w19:=bT (by exact zB) hbw19
    have hC19:Below w18.heap.size w18 w19:=bT (by exact zB) hbw19
    replace X1:=X1.below hC19
    replace X2:=X2.below hC19
    replace Y1:=Y1.below hC19
    replace Y2:=Y2.below hC19
    replace U1:=U1.below hC19
    replace U2:=U2.below hC19
    have hsw19:=hbw19.size;(try (simp at hsw19));have zz:=hQ hbw19 (b:=w.heap.size);(first|(simp [go_sem,z_w,l_w] at zz)|(simp [go_sem] at zz));(try clear x_w f_w);(try clear z_w);have z_w:=zz;clear zz;(try clear l_w);obtain ⟨x_w,f_w,l_w⟩:=bO z_w;have zz:=hQ hbw19 (b:=w.heap.size+1);(first|(simp [go_sem,z_wp,l_wp] at zz)|(simp [go_sem] at zz));(try clear x_wp f_wp);(try clear z_wp);have z_wp:=zz;clear zz;(try clear l_wp);obtain ⟨x_wp,f_wp,l_wp⟩:=bO z_wp;have zz:=hQ hbw19 (b:=b6);(first|(simp [go_sem,z_b6,l_b6] at zz)|(simp [go_sem] at zz));(try clear x_b6 f_b6);(try clear z_b6);have z_b6:=zz;clear zz;(try clear l_b6);obtain ⟨x_b6,f_b6,l_b6⟩:=bO z_b6;have zz:=hQ hbw19 (b:=b7);(first|(simp [go_sem,z_b7,l_b7] at zz)|(simp [go_sem] at zz));(try clear x_b7 f_b7);(try clear z_b7);have z_b7:=zz;clear zz;(try clear l_b7);obtain ⟨x_b7,f_b7,l_b7⟩:=bO z_b7;have zz:=hQ hbw19 (b:=w6.heap.size);(first|(simp [go_sem,z_w6,l_w6] at zz)|(simp [go_sem] at zz));(try clear x_w6 f_w6);(try clear z_w6);have z_w6:=zz;clear zz;(try clear l_w6);obtain ⟨x_w6,f_w6,l_w6⟩:=bO z_w6;have zz:=hQ hbw19 (b:=b10);(first|(simp [go_sem,z_b10,l_b10] at zz)|(simp [go_sem] at zz));(try clear x_b10 f_b10);(try clear z_b10);have z_b10:=zz;clear zz;(try clear l_b10);obtain ⟨x_b10,f_b10,l_b10⟩:=bO z_b10;have zz:=hQ hbw19 (b:=b11);(first|(simp [go_sem,z_b11,l_b11] at zz)|(simp [go_sem] at zz));(try clear x_b11 f_b11);(try clear z_b11);have z_b11:=zz;clear zz;(try clear l_b11);obtain ⟨x_b11,f_b11,l_b11⟩:=bO z_b11;have zz:=hQ hbw19 (b:=b16);(first|(simp [go_sem,z_b16,l_b16] at zz)|(simp [go_sem] at zz));(try clear x_b16 f_b16);(try clear z_b16);have z_b16:=zz;clear zz;(try clear l_b16);obtain ⟨x_b16,f_b16,l_b16⟩:=bO z_b16;have zz:=hQ hbw19 (b:=b17);(first|(simp [go_sem,z_b17,l_b17] at zz)|(simp [go_sem] at zz));(try clear x_b17 f_b17);(try clear z_b17);have z_b17:=zz;clear zz;(try clear l_b17);obtain ⟨x_b17,f_b17,l_b17⟩:=bO z_b17
    clear hbw19
    go_wp2_with fail
    refine (heldChan_any x.1.cells.length x.1.words.length _ _ _ _ _ _ _ _ 1 (1+3*x.1.cells.length) _ (Y1.below (by exact zB)) (Y2.below (by exact zB)) (by omega) (by omega) rfl n3 n4).mono ?_
    rintro _ w20 ⟨rfl,hbw20⟩
    have hB20:Below w.heap.size w w20:=bT (by exact zB) hbw20
    have hC20:Below w19.heap.size w19 w20:=bT (by exact zB) hbw20
    replace X1:=X1.below hC20
    replace X2:=X2.below hC20
    replace Y1:=Y1.below hC20
    replace Y2:=Y2.below hC20
    replace U1:=U1.below hC20
    replace U2:=U2.below hC20
    have hsw20:=hbw20.size;(try (simp at hsw20));have zz:=hQ hbw20 (b:=w.heap.size);(first|(simp [go_sem,z_w,l_w] at zz)|(simp [go_sem] at zz));(try clear x_w f_w);(try clear z_w);have z_w:=zz;clear zz;(try clear l_w);obtain ⟨x_w,f_w,l_w⟩:=bO z_w;have zz:=hQ hbw20 (b:=w.heap.size+1);(first|(simp [go_sem,z_wp,l_wp] at zz)|(simp [go_sem] at zz));(try clear x_wp f_wp);(try clear z_wp);have z_wp:=zz;clear zz;(try clear l_wp);obtain ⟨x_wp,f_wp,l_wp⟩:=bO z_wp;have zz:=hQ hbw20 (b:=b6);(first|(simp [go_sem,z_b6,l_b6] at zz)|(simp [go_sem] at zz));(try clear x_b6 f_b6);(try clear z_b6);have z_b6:=zz;clear zz;(try clear l_b6);obtain ⟨x_b6,f_b6,l_b6⟩:=bO z_b6;have zz:=hQ hbw20 (b:=b7);(first|(simp [go_sem,z_b7,l_b7] at zz)|(simp [go_sem] at zz));(try clear x_b7 f_b7);(try clear z_b7);have z_b7:=zz;clear zz;(try clear l_b7);obtain ⟨x_b7,f_b7,l_b7⟩:=bO z_b7;have zz:=hQ hbw20 (b:=w6.heap.size);(first|(simp [go_sem,z_w6,l_w6] at zz)|(simp [go_sem] at zz));(try clear x_w6 f_w6);(try clear z_w6);have z_w6:=zz;clear zz;(try clear l_w6);obtain ⟨x_w6,f_w6,l_w6⟩:=bO z_w6;have zz:=hQ hbw20 (b:=b10);(first|(simp [go_sem,z_b10,l_b10] at zz)|(simp [go_sem] at zz));(try clear x_b10 f_b10);(try clear z_b10);have z_b10:=zz;clear zz;(try clear l_b10);obtain ⟨x_b10,f_b10,l_b10⟩:=bO z_b10;have zz:=hQ hbw20 (b:=b11);(first|(simp [go_sem,z_b11,l_b11] at zz)|(simp [go_sem] at zz));(try clear x_b11 f_b11);(try clear z_b11);have z_b11:=zz;clear zz;(try clear l_b11);obtain ⟨x_b11,f_b11,l_b11⟩:=bO z_b11;have zz:=hQ hbw20 (b:=b16);(first|(simp [go_sem,z_b16,l_b16] at zz)|(simp [go_sem] at zz));(try clear x_b16 f_b16);(try clear z_b16);have z_b16:=zz;clear zz;(try clear l_b16);obtain ⟨x_b16,f_b16,l_b16⟩:=bO z_b16;have zz:=hQ hbw20 (b:=b17);(first|(simp [go_sem,z_b17,l_b17] at zz)|(simp [go_sem] at zz));(try clear x_b17 f_b17);(try clear z_b17);have z_b17:=zz;clear zz;(try clear l_b17);obtain ⟨x_b17,f_b17,l_b17⟩:=bO z_b17
    clear hbw20
    go_wp2
    go_ret
    exact ⟨rfl,hB20⟩
    · intro l s wx hl hd hn hf0 K hK
      have hf:=Lib.hid hf0
      clear hf0
      have hB:=hf.out.1
      have z:=hpS z_w hB
      go_simp
      refine hK.out (upd s 25 (.agg (cvals c (.slice a c.cells.length p) (.slice b c.words.length q)))) _ _ (by simp [upd_at] <;> rfl) ⟨hB,fun _=>rfl,fun h=>absurd h (by rw [show upd l 0 true 1=l 1 from rfl,hn 1 rfl];exact Bool.false_ne_true),fun h=>hf.out.2.2.2.1 h,fun h=>hf.out.2.2.2.2.1 h,fun h=>absurd h (by rw [show upd l 0 true 4=l 4 from rfl,hn 4 rfl];exact Bool.false_ne_true),fun h=>absurd h (by rw [show upd l 0 true 5=l 5 from rfl,hn 5 rfl];exact Bool.false_ne_true),fun h=>absurd h (by rw [show upd l 0 true 6=l 6 from rfl,hn 6 rfl];exact Bool.false_ne_true),fun h=>absurd h (by rw [show upd l 0 true 7=l 7 from rfl,hn 7 rfl];exact Bool.false_ne_true),fun h=>absurd h (by rw [show upd l 0 true 8=l 8 from rfl,hn 8 rfl];exact Bool.false_ne_true),fun h=>hf.out.2.2.2.2.2.2.2.2.2.2.1 h,fun h=>hf.out.2.2.2.2.2.2.2.2.2.2.2.1 h,fun h=>absurd h (by rw [show upd l 0 true 13=l 13 from rfl,hn 13 rfl];exact Bool.false_ne_true)⟩
    · intro l s wx hl hd hn hf0 K hK
      have hf:=Lib.hid hf0
      clear hf0
      have hB:=hf.out.1
      have e0:=(hf.out.2.1 (hd 0 rfl))
      go_simp
      go_at_call 7
      refine (toChan_any c a b p q _ ((H1.out.below (bT hB1 hB)).more (bT hB1 hB).size) ((H2.out.below (bT hB1 hB)).more (bT hB1 hB).size) n1 n2).mono ?_
      rintro _ wy ⟨⟨g1,g2,rfl,_,_,R1,R2⟩,hE⟩
      refine hK.out (upd s 26 (.agg (cvals c (.slice (some ⟨g1,0,none⟩) c.cells.length c.cells.length) (.slice (some ⟨g2,0,none⟩) c.words.length c.words.length)))) _ _ (by simp [upd_at,e0] <;> rfl) ⟨bT hB hE,fun h=>hf.out.2.1 h,fun _ _=>⟨g1,g2,rfl,R1,R2⟩,fun h=>hf.out.2.2.2.1 h,fun h=>hf.out.2.2.2.2.1 h,fun h=>absurd h (by rw [show upd l 1 true 4=l 4 from rfl,hn 4 rfl];exact Bool.false_ne_true),fun h=>absurd h (by rw [show upd l 1 true 5=l 5 from rfl,hn 5 rfl];exact Bool.false_ne_true),fun h=>absurd h (by rw [show upd l 1 true 6=l 6 from rfl,hn 6 rfl];exact Bool.false_ne_true),fun h=>absurd h (by rw [show upd l 1 true 7=l 7 from rfl,hn 7 rfl];exact Bool.false_ne_true),fun h=>absurd h (by rw [show upd l 1 true 8=l 8 from rfl,hn 8 rfl];exact Bool.false_ne_true),fun h=>IsBox.below (hf.out.2.2.2.2.2.2.2.2.2.2.1 h) hE,fun h=>IsBox.below (hf.out.2.2.2.2.2.2.2.2.2.2.2.1 h) hE,fun h=>absurd h (by rw [show upd l 1 true 13=l 13 from rfl,hn 13 rfl];exact Bool.false_ne_true)⟩
    · intro l s wx hl hd hn hf0 K hK
      have hf:=Lib.hid hf0
      clear hf0
      have hB:=hf.out.1
      have z:=hpS z_wp hB
      go_simp
      refine hK.out (upd s 27 (.agg (hvals h))) _ _ (by simp [upd_at] <;> rfl) ⟨hB,fun h=>hf.out.2.1 h,fun h=>hf.out.2.2.1 h,fun _=>rfl,fun h=>absurd h (by rw [show upd l 2 true 3=l 3 from rfl,hn 3 rfl];exact Bool.false_ne_true),fun h=>absurd h (by rw [show upd l 2 true 4=l 4 from rfl,hn 4 rfl];exact Bool.false_ne_true),fun h=>absurd h (by rw [show upd l 2 true 5=l 5 from rfl,hn 5 rfl];exact Bool.false_ne_true),fun h=>absurd h (by rw [show upd l 2 true 6=l 6 from rfl,hn 6 rfl];exact Bool.false_ne_true),fun h=>absurd h (by rw [show upd l 2 true 7=l 7 from rfl,hn 7 rfl];exact Bool.false_ne_true),fun h=>absurd h (by rw [show upd l 2 true 8=l 8 from rfl,hn 8 rfl];exact Bool.false_ne_true),fun h=>hf.out.2.2.2.2.2.2.2.2.2.2.1 h,fun h=>hf.out.2.2.2.2.2.2.2.2.2.2.2.1 h,fun h=>absurd h (by rw [show upd l 2 true 13=l 13 from rfl,hn 13 rfl];exact Bool.false_ne_true)⟩
    · intro l s wx hl hd hn hf0 K hK
      have hf:=Lib.hid hf0
      clear hf0
      have hB:=hf.out.1
      have e2:=(hf.out.2.2.2.1 (hd 2 rfl))
      go_simp
      go_at_call 8
      refine (toHand_any h _).mono ?_
      rintro _ wy ⟨rfl,hE⟩
      refine hK.out (upd s 28 (.agg (hvals h))) _ _ (by simp [upd_at,e2] <;> rfl) ⟨bT hB hE,fun h=>hf.out.2.1 h,fun h=>fun h4=>(let ⟨g1,g2,e,R1,R2⟩:=(hf.out.2.2.1 h) h4;⟨g1,g2,e,R1.belowS hE,R2.belowS hE⟩),fun h=>hf.out.2.2.2.1 h,fun _=>rfl,fun h=>absurd h (by rw [show upd l 3 true 4=l 4 from rfl,hn 4 rfl];exact Bool.false_ne_true),fun h=>absurd h (by rw [show upd l 3 true 5=l 5 from rfl,hn 5 rfl];exact Bool.false_ne_true),fun h=>absurd h (by rw [show upd l 3 true 6=l 6 from rfl,hn 6 rfl];exact Bool.false_ne_true),fun h=>absurd h (by rw [show upd l 3 true 7=l 7 from rfl,hn 7 rfl];exact Bool.false_ne_true),fun h=>absurd h (by rw [show upd l 3 true 8=l 8 from rfl,hn 8 rfl];exact Bool.false_ne_true),fun h=>IsBox.below (hf.out.2.2.2.2.2.2.2.2.2.2.1 h) hE,fun h=>IsBox.below (hf.out.2.2.2.2.2.2.2.2.2.2.2.1 h) hE,fun h=>absurd h (by rw [show upd l 3 true 13=l 13 from rfl,hn 13 rfl];exact Bool.false_ne_true)⟩
    · intro l s wx hl hd hn hf0 K hK
      have hf:=Lib.hid hf0
      clear hf0
      have hB:=hf.out.1
      have et:=hf.out.2.2.2.2.1 (hd 3 rfl)
      obtain ⟨g1,g2,ec,R1,R2⟩:=hf.out.2.2.1 (hd 1 rfl) hl
      go_simp
      go_at_call 14
      refine (HS.out _ _ _ _ _ R1.seg (fun e=>by cases e) R2.seg (fun e=>by cases e)).mono ?_
      rintro _ wy ⟨⟨v1,v2,rfl,X1,X2,_,_⟩,hE⟩
      refine hK.out (upd (upd (upd s 1003 (v1)) 1004 (v2)) 29 (.tuple #[.agg (cvals x.1 v1 v2),.agg (hvals x.2.1),.bool x.2.2])) _ _ (by simp [upd_at,ec,et] <;> rfl) ⟨bT hB hE,fun h=>hf.out.2.1 h,fun _ h4=>absurd h4 (by rw [show upd l 4 true 4=true from rfl];decide),fun h=>hf.out.2.2.2.1 h,fun h=>hf.out.2.2.2.2.1 h,fun _=>⟨rfl,own_lo X1 hB.size,own_lo X2 hB.size⟩,fun h=>absurd h (by rw [show upd l 4 true 5=l 5 from rfl,hn 5 rfl];exact Bool.false_ne_true),fun h=>absurd h (by rw [show upd l 4 true 6=l 6 from rfl,hn 6 rfl];exact Bool.false_ne_true),fun h=>absurd h (by rw [show upd l 4 true 7=l 7 from rfl,hn 7 rfl];exact Bool.false_ne_true),fun h=>absurd h (by rw [show upd l 4 true 8=l 8 from rfl,hn 8 rfl];exact Bool.false_ne_true),fun h=>by (have ee:l 11=false:=hn 11 rfl);(have F:=hf.out.2.2.2.2.2.2.2.2.2.2.1 h);rw [ee] at F;rw [show upd l 4 true 11=false from ee];exact F.below hE,fun h=>by (have ee:l 12=false:=hn 12 rfl);(have F:=hf.out.2.2.2.2.2.2.2.2.2.2.2.1 h);rw [ee] at F;rw [show upd l 4 true 12=false from ee];exact F.below hE,fun h=>absurd h (by rw [show upd l 4 true 13=l 13 from rfl,hn 13 rfl];exact Bool.false_ne_true)⟩
    · intro l s wx hl hd hn hf0 K hK
      have hf:=Lib.hid hf0
      clear hf0
      have hB:=hf.out.1
      have e4:=(hf.out.2.2.2.2.2.1 (hd 4 rfl)).1
      go_simp
      refine hK.out (upd s 24 (.tuple #[.agg (cvals x.1 (s 1003) (s 1004)),.agg (hvals x.2.1),.bool x.2.2])) _ _ (by simp [upd_at,e4] <;> rfl) ⟨hB,fun h=>hf.out.2.1 h,fun h=>hf.out.2.2.1 h,fun h=>hf.out.2.2.2.1 h,fun h=>hf.out.2.2.2.2.1 h,fun h=>hf.out.2.2.2.2.2.1 h,fun _=>rfl,fun h=>absurd h (by rw [show upd l 5 true 6=l 6 from rfl,hn 6 rfl];exact Bool.false_ne_true),fun h=>absurd h (by rw [show upd l 5 true 7=l 7 from rfl,hn 7 rfl];exact Bool.false_ne_true),fun h=>absurd h (by rw [show upd l 5 true 8=l 8 from rfl,hn 8 rfl];exact Bool.false_ne_true),fun h=>hf.out.2.2.2.2.2.2.2.2.2.2.1 h,fun h=>hf.out.2.2.2.2.2.2.2.2.2.2.2.1 h,fun h=>absurd h (by rw [show upd l 5 true 13=l 13 from rfl,hn 13 rfl];exact Bool.false_ne_true)⟩
    · intro l s wx hl hd hn hf0 K hK
      have hf:=Lib.hid hf0
      clear hf0
      have hB:=hf.out.1
      have e5:=(hf.out.2.2.2.2.2.2.1 (hd 5 rfl))
      go_simp
      refine hK.out (upd s 30 (.agg (cvals x.1 (s 1003) (s 1004)))) _ _ (by simp [upd_at,e5] <;> rfl) ⟨hB,fun h=>hf.out.2.1 h,fun h=>hf.out.2.2.1 h,fun h=>hf.out.2.2.2.1 h,fun h=>hf.out.2.2.2.2.1 h,fun h=>hf.out.2.2.2.2.2.1 h,fun h=>hf.out.2.2.2.2.2.2.1 h,fun _=>rfl,fun h=>hf.out.2.2.2.2.2.2.2.2.1 h,fun h=>hf.out.2.2.2.2.2.2.2.2.2.1 h,fun h=>hf.out.2.2.2.2.2.2.2.2.2.2.1 h,fun h=>hf.out.2.2.2.2.2.2.2.2.2.2.2.1 h,fun h=>hf.out.2.2.2.2.2.2.2.2.2.2.2.2 h⟩
    · intro l s wx hl hd hn hf0 K hK
      have hf:=Lib.hid hf0
      clear hf0
      have hB:=hf.out.1
      have e5:=(hf.out.2.2.2.2.2.2.1 (hd 5 rfl))
      go_simp
      refine hK.out (upd s 31 (.agg (hvals x.2.1))) _ _ (by simp [upd_at,e5] <;> rfl) ⟨hB,fun h=>hf.out.2.1 h,fun h=>hf.out.2.2.1 h,fun h=>hf.out.2.2.2.1 h,fun h=>hf.out.2.2.2.2.1 h,fun h=>hf.out.2.2.2.2.2.1 h,fun h=>hf.out.2.2.2.2.2.2.1 h,fun h=>hf.out.2.2.2.2.2.2.2.1 h,fun _=>rfl,fun h=>hf.out.2.2.2.2.2.2.2.2.2.1 h,fun h=>hf.out.2.2.2.2.2.2.2.2.2.2.1 h,fun h=>hf.out.2.2.2.2.2.2.2.2.2.2.2.1 h,fun h=>hf.out.2.2.2.2.2.2.2.2.2.2.2.2 h⟩
    · intro l s wx hl hd hn hf0 K hK
      have hf:=Lib.hid hf0
      clear hf0
      have hB:=hf.out.1
      have e5:=(hf.out.2.2.2.2.2.2.1 (hd 5 rfl))
      go_simp
      refine hK.out (upd s 32 (.bool x.2.2)) _ _ (by simp [upd_at,e5] <;> rfl) ⟨hB,fun h=>hf.out.2.1 h,fun h=>hf.out.2.2.1 h,fun h=>hf.out.2.2.2.1 h,fun h=>hf.out.2.2.2.2.1 h,fun h=>hf.out.2.2.2.2.2.1 h,fun h=>hf.out.2.2.2.2.2.2.1 h,fun h=>hf.out.2.2.2.2.2.2.2.1 h,fun h=>hf.out.2.2.2.2.2.2.2.2.1 h,fun _=>rfl,fun h=>hf.out.2.2.2.2.2.2.2.2.2.2.1 h,fun h=>hf.out.2.2.2.2.2.2.2.2.2.2.2.1 h,fun h=>absurd h (by rw [show upd l 8 true 13=l 13 from rfl,hn 13 rfl];exact Bool.false_ne_true)⟩
    · intro l s wx hl hd hn hf0 K hK
      have hf:=Lib.hid hf0
      clear hf0
      have hB:=hf.out.1
      go_simp
      refine hK.out (upd s 6 (.pointer (some ⟨wx.heap.size,0,none⟩))) _ _ (by simp [upd_at] <;> rfl) ⟨bT hB (belowAlloc _ _),fun h=>hf.out.2.1 h,fun h=>fun h4=>(let ⟨g1,g2,e,R1,R2⟩:=(hf.out.2.2.1 h) h4;⟨g1,g2,e,R1.belowS (belowAlloc _ _),R2.belowS (belowAlloc _ _)⟩),fun h=>hf.out.2.2.2.1 h,fun h=>hf.out.2.2.2.2.1 h,fun h=>(let ⟨e,X1,X2⟩:=(hf.out.2.2.2.2.2.1 h);⟨e,own_below X1 (belowAlloc _ _),own_below X2 (belowAlloc _ _)⟩),fun h=>hf.out.2.2.2.2.2.2.1 h,fun h=>hf.out.2.2.2.2.2.2.2.1 h,fun h=>hf.out.2.2.2.2.2.2.2.2.1 h,fun h=>hf.out.2.2.2.2.2.2.2.2.2.1 h,fun _=>by rw [show upd l 9 true 11=false from hn 11 rfl];exact IsBox.new hB.size,fun h=>IsBox.below (hf.out.2.2.2.2.2.2.2.2.2.2.2.1 h) (belowAlloc _ _),fun h=>hf.out.2.2.2.2.2.2.2.2.2.2.2.2 h⟩
    · intro l s wx hl hd hn hf0 K hK
      have hf:=Lib.hid hf0
      clear hf0
      have hB:=hf.out.1
      go_simp
      refine hK.out (upd s 7 (.pointer (some ⟨wx.heap.size,0,none⟩))) _ _ (by simp [upd_at] <;> rfl) ⟨bT hB (belowAlloc _ _),fun h=>hf.out.2.1 h,fun h=>fun h4=>(let ⟨g1,g2,e,R1,R2⟩:=(hf.out.2.2.1 h) h4;⟨g1,g2,e,R1.belowS (belowAlloc _ _),R2.belowS (belowAlloc _ _)⟩),fun h=>hf.out.2.2.2.1 h,fun h=>hf.out.2.2.2.2.1 h,fun h=>(let ⟨e,X1,X2⟩:=(hf.out.2.2.2.2.2.1 h);⟨e,own_below X1 (belowAlloc _ _),own_below X2 (belowAlloc _ _)⟩),fun h=>hf.out.2.2.2.2.2.2.1 h,fun h=>hf.out.2.2.2.2.2.2.2.1 h,fun h=>hf.out.2.2.2.2.2.2.2.2.1 h,fun h=>hf.out.2.2.2.2.2.2.2.2.2.1 h,fun h=>IsBox.below (hf.out.2.2.2.2.2.2.2.2.2.2.1 h) (belowAlloc _ _),fun _=>by rw [show upd l 10 true 12=false from hn 12 rfl];exact IsBox.new hB.size,fun h=>hf.out.2.2.2.2.2.2.2.2.2.2.2.2 h⟩
    · intro l s wx hl hd hn hf0 K hK
      have hf:=Lib.hid hf0
      clear hf0
      have hB:=hf.out.1
      have e4:=(hf.out.2.2.2.2.2.1 (hd 4 rfl))
      have e6:=(hf.out.2.2.2.2.2.2.2.1 (hd 6 rfl))
      have X1:=e4.2.1
      have X2:=e4.2.2
      clear e4
      obtain ⟨bb,eb,hlo,zb⟩:=hf.out.2.2.2.2.2.2.2.2.2.2.1 (hd 9 rfl)
      rw [hl] at zb
      dsimp only [cond] at zb
      obtain ⟨xa,xp,ea,_⟩:=X1.seg
      obtain ⟨xb,xq,eb2,_⟩:=X2.seg
      rw [ea,eb2] at e6
      go_simp
      have zn:hp (setBox wx bb (cvals x.1 (.slice xa x.1.cells.length xp) (.slice xb x.1.words.length xq))) bb=some (.cells (cvals x.1 (s 1003) (s 1004)) 33):=by rw [ea,eb2];exact hp_set zb
      refine hK.out (s) _ _ (by simp [upd_at,eb,e6,ea,eb2] <;> rfl) ⟨bBx hB hlo,fun h=>hf.out.2.1 h,fun _ h4=>absurd ((hd 4 rfl).symm.trans h4) (by decide),fun h=>hf.out.2.2.2.1 h,fun h=>hf.out.2.2.2.2.1 h,fun h=>⟨(hf.out.2.2.2.2.2.1 h).1,own_far (hf.out.2.2.2.2.2.1 h).2.1 zb (by decide),own_far (hf.out.2.2.2.2.2.1 h).2.2 zb (by decide)⟩,fun h=>hf.out.2.2.2.2.2.2.1 h,fun h=>hf.out.2.2.2.2.2.2.2.1 h,fun h=>hf.out.2.2.2.2.2.2.2.2.1 h,fun h=>hf.out.2.2.2.2.2.2.2.2.2.1 h,fun _=>⟨bb,eb,hlo,zn⟩,fun h=>IsBox.far (hf.out.2.2.2.2.2.2.2.2.2.2.2.1 h) zb (by decide),fun h=>hf.out.2.2.2.2.2.2.2.2.2.2.2.2 h⟩
    · intro l s wx hl hd hn hf0 K hK
      have hf:=Lib.hid hf0
      clear hf0
      have hB:=hf.out.1
      have e4:=(hf.out.2.2.2.2.2.1 (hd 4 rfl))
      have e7:=(hf.out.2.2.2.2.2.2.2.2.1 (hd 7 rfl))
      have X1:=e4.2.1
      have X2:=e4.2.2
      clear e4
      obtain ⟨bb,eb,hlo,zb⟩:=hf.out.2.2.2.2.2.2.2.2.2.2.2.1 (hd 10 rfl)
      rw [hl] at zb
      dsimp only [cond] at zb
      go_simp
      have zn:hp (setBox wx bb (hvals x.2.1)) bb=some (.cells (hvals x.2.1) 36):=by exact hp_set zb
      refine hK.out (s) _ _ (by simp [upd_at,eb,e7] <;> rfl) ⟨bBx hB hlo,fun h=>hf.out.2.1 h,fun _ h4=>absurd ((hd 4 rfl).symm.trans h4) (by decide),fun h=>hf.out.2.2.2.1 h,fun h=>hf.out.2.2.2.2.1 h,fun h=>⟨(hf.out.2.2.2.2.2.1 h).1,own_far (hf.out.2.2.2.2.2.1 h).2.1 zb (by decide),own_far (hf.out.2.2.2.2.2.1 h).2.2 zb (by decide)⟩,fun h=>hf.out.2.2.2.2.2.2.1 h,fun h=>hf.out.2.2.2.2.2.2.2.1 h,fun h=>hf.out.2.2.2.2.2.2.2.2.1 h,fun h=>hf.out.2.2.2.2.2.2.2.2.2.1 h,fun h=>IsBox.far (hf.out.2.2.2.2.2.2.2.2.2.2.1 h) zb (by decide),fun _=>⟨bb,eb,hlo,zn⟩,fun h=>hf.out.2.2.2.2.2.2.2.2.2.2.2.2 h⟩
    · intro l s wx hl hd hn hf0 K hK
      have hf:=Lib.hid hf0
      clear hf0
      have hB:=hf.out.1
      have e8:=(hf.out.2.2.2.2.2.2.2.2.2.1 (hd 8 rfl))
      go_simp
      refine hK.out (upd s 8 (.bool x.2.2)) _ _ (by simp [upd_at,e8] <;> rfl) ⟨hB,fun h=>hf.out.2.1 h,fun h=>hf.out.2.2.1 h,fun h=>hf.out.2.2.2.1 h,fun h=>hf.out.2.2.2.2.1 h,fun h=>hf.out.2.2.2.2.2.1 h,fun h=>hf.out.2.2.2.2.2.2.1 h,fun h=>hf.out.2.2.2.2.2.2.2.1 h,fun h=>hf.out.2.2.2.2.2.2.2.2.1 h,fun h=>hf.out.2.2.2.2.2.2.2.2.2.1 h,fun h=>hf.out.2.2.2.2.2.2.2.2.2.2.1 h,fun h=>hf.out.2.2.2.2.2.2.2.2.2.2.2.1 h,fun _=>rfl⟩
    · intro l s wx hl hd hn hf0 K hK
      have hf:=Lib.hid hf0
      clear hf0
      have hB:=hf.out.1
      have z:=hpS z_w6 hB
      go_simp
      refine hK.out (upd s 36 (.agg (cvals c (.slice (some ⟨g3,0,none⟩) c.cells.length c.cells.length) (.slice (some ⟨g4,0,none⟩) c.words.length c.words.length)))) _ _ (by simp [upd_at] <;> rfl) ⟨hB,fun _=>rfl,fun h=>hf.out.2.2.1 h,fun h=>hf.out.2.2.2.1 h,fun h=>absurd h (by rw [show upd l 0 true 3=l 3 from rfl,hn 3 rfl];exact Bool.false_ne_true),fun h=>absurd h (by rw [show upd l 0 true 4=l 4 from rfl,hn 4 rfl];exact Bool.false_ne_true),fun h=>absurd h (by rw [show upd l 0 true 5=l 5 from rfl,hn 5 rfl];exact Bool.false_ne_true),fun h=>absurd h (by rw [show upd l 0 true 6=l 6 from rfl,hn 6 rfl];exact Bool.false_ne_true),fun h=>absurd h (by rw [show upd l 0 true 7=l 7 from rfl,hn 7 rfl];exact Bool.false_ne_true),fun h=>hf.out.2.2.2.2.2.2.2.2.2.1 h,fun h=>hf.out.2.2.2.2.2.2.2.2.2.2.1 h,fun h=>absurd h (by rw [show upd l 0 true 12=l 12 from rfl,hn 12 rfl];exact Bool.false_ne_true)⟩
    · intro l s wx hl hd hn hf0 K hK
      have hf:=Lib.hid hf0
      clear hf0
      have hB:=hf.out.1
      have z:=hpS z_wp hB
      go_simp
      refine hK.out (upd s 37 (.agg (hvals h))) _ _ (by simp [upd_at] <;> rfl) ⟨hB,fun h=>hf.out.2.1 h,fun _=>rfl,fun h=>absurd h (by rw [show upd l 1 true 2=l 2 from rfl,hn 2 rfl];exact Bool.false_ne_true),fun h=>absurd h (by rw [show upd l 1 true 3=l 3 from rfl,hn 3 rfl];exact Bool.false_ne_true),fun h=>absurd h (by rw [show upd l 1 true 4=l 4 from rfl,hn 4 rfl];exact Bool.false_ne_true),fun h=>absurd h (by rw [show upd l 1 true 5=l 5 from rfl,hn 5 rfl];exact Bool.false_ne_true),fun h=>absurd h (by rw [show upd l 1 true 6=l 6 from rfl,hn 6 rfl];exact Bool.false_ne_true),fun h=>absurd h (by rw [show upd l 1 true 7=l 7 from rfl,hn 7 rfl];exact Bool.false_ne_true),fun h=>hf.out.2.2.2.2.2.2.2.2.2.1 h,fun h=>hf.out.2.2.2.2.2.2.2.2.2.2.1 h,fun h=>absurd h (by rw [show upd l 1 true 12=l 12 from rfl,hn 12 rfl];exact Bool.false_ne_true)⟩
    · intro l s wx hl hd hn hf0 K hK
      have hf:=Lib.hid hf0
      clear hf0
      have hB:=hf.out.1
      have e1:=(hf.out.2.2.1 (hd 1 rfl))
      go_simp
      go_at_call 8
      refine (toHand_any h _).mono ?_
      rintro _ wy ⟨rfl,hE⟩
      refine hK.out (upd s 38 (.agg (hvals h))) _ _ (by simp [upd_at,e1] <;> rfl) ⟨bT hB hE,fun h=>hf.out.2.1 h,fun h=>hf.out.2.2.1 h,fun _=>rfl,fun h=>absurd h (by rw [show upd l 2 true 3=l 3 from rfl,hn 3 rfl];exact Bool.false_ne_true),fun h=>absurd h (by rw [show upd l 2 true 4=l 4 from rfl,hn 4 rfl];exact Bool.false_ne_true),fun h=>absurd h (by rw [show upd l 2 true 5=l 5 from rfl,hn 5 rfl];exact Bool.false_ne_true),fun h=>absurd h (by rw [show upd l 2 true 6=l 6 from rfl,hn 6 rfl];exact Bool.false_ne_true),fun h=>absurd h (by rw [show upd l 2 true 7=l 7 from rfl,hn 7 rfl];exact Bool.false_ne_true),fun h=>IsBox.below (hf.out.2.2.2.2.2.2.2.2.2.1 h) hE,fun h=>IsBox.below (hf.out.2.2.2.2.2.2.2.2.2.2.1 h) hE,fun h=>absurd h (by rw [show upd l 2 true 12=l 12 from rfl,hn 12 rfl];exact Bool.false_ne_true)⟩
    · intro l s wx hl hd hn hf0 K hK
      have hf:=Lib.hid hf0
      clear hf0
      have hB:=hf.out.1
      have et:=hf.out.2.2.2.1 (hd 2 rfl)
      have ec:=hf.out.2.1 (hd 0 rfl)
      go_simp
      go_at_call 15
      refine (HI.out _ _ _ _ _ (C3.segAt hB) (fun e=>by cases e) (C4.segAt hB) (fun e=>by cases e)).mono ?_
      rintro _ wy ⟨⟨v1,v2,rfl,X1,X2,_,_⟩,hE⟩
      refine hK.out (upd (upd (upd s 1003 (v1)) 1004 (v2)) 39 (.tuple #[.agg (cvals x.1 v1 v2),.agg (hvals x.2.1),.bool x.2.2])) _ _ (by simp [upd_at,ec,et] <;> rfl) ⟨bT hB hE,fun h=>hf.out.2.1 h,fun h=>hf.out.2.2.1 h,fun h=>hf.out.2.2.2.1 h,fun _=>⟨rfl,own_lo X1 hB.size,own_lo X2 hB.size⟩,fun h=>absurd h (by rw [show upd l 3 true 4=l 4 from rfl,hn 4 rfl];exact Bool.false_ne_true),fun h=>absurd h (by rw [show upd l 3 true 5=l 5 from rfl,hn 5 rfl];exact Bool.false_ne_true),fun h=>absurd h (by rw [show upd l 3 true 6=l 6 from rfl,hn 6 rfl];exact Bool.false_ne_true),fun h=>absurd h (by rw [show upd l 3 true 7=l 7 from rfl,hn 7 rfl];exact Bool.false_ne_true),fun h=>by (have ee:l 10=false:=hn 10 rfl);(have F:=hf.out.2.2.2.2.2.2.2.2.2.1 h);rw [ee] at F;rw [show upd l 3 true 10=false from ee];exact F.below hE,fun h=>by (have ee:l 11=false:=hn 11 rfl);(have F:=hf.out.2.2.2.2.2.2.2.2.2.2.1 h);rw [ee] at F;rw [show upd l 3 true 11=false from ee];exact F.below hE,fun h=>absurd h (by rw [show upd l 3 true 12=l 12 from rfl,hn 12 rfl];exact Bool.false_ne_true)⟩
    · intro l s wx hl hd hn hf0 K hK
      have hf:=Lib.hid hf0
      clear hf0
      have hB:=hf.out.1
      have e3:=(hf.out.2.2.2.2.1 (hd 3 rfl)).1
      go_simp
      refine hK.out (upd s 35 (.tuple #[.agg (cvals x.1 (s 1003) (s 1004)),.agg (hvals x.2.1),.bool x.2.2])) _ _ (by simp [upd_at,e3] <;> rfl) ⟨hB,fun h=>hf.out.2.1 h,fun h=>hf.out.2.2.1 h,fun h=>hf.out.2.2.2.1 h,fun h=>hf.out.2.2.2.2.1 h,fun _=>rfl,fun h=>absurd h (by rw [show upd l 4 true 5=l 5 from rfl,hn 5 rfl];exact Bool.false_ne_true),fun h=>absurd h (by rw [show upd l 4 true 6=l 6 from rfl,hn 6 rfl];exact Bool.false_ne_true),fun h=>absurd h (by rw [show upd l 4 true 7=l 7 from rfl,hn 7 rfl];exact Bool.false_ne_true),fun h=>hf.out.2.2.2.2.2.2.2.2.2.1 h,fun h=>hf.out.2.2.2.2.2.2.2.2.2.2.1 h,fun h=>absurd h (by rw [show upd l 4 true 12=l 12 from rfl,hn 12 rfl];exact Bool.false_ne_true)⟩
    · intro l s wx hl hd hn hf0 K hK
      have hf:=Lib.hid hf0
      clear hf0
      have hB:=hf.out.1
      have e4:=(hf.out.2.2.2.2.2.1 (hd 4 rfl))
      go_simp
      refine hK.out (upd s 40 (.agg (cvals x.1 (s 1003) (s 1004)))) _ _ (by simp [upd_at,e4] <;> rfl) ⟨hB,fun h=>hf.out.2.1 h,fun h=>hf.out.2.2.1 h,fun h=>hf.out.2.2.2.1 h,fun h=>hf.out.2.2.2.2.1 h,fun h=>hf.out.2.2.2.2.2.1 h,fun _=>rfl,fun h=>hf.out.2.2.2.2.2.2.2.1 h,fun h=>hf.out.2.2.2.2.2.2.2.2.1 h,fun h=>hf.out.2.2.2.2.2.2.2.2.2.1 h,fun h=>hf.out.2.2.2.2.2.2.2.2.2.2.1 h,fun h=>hf.out.2.2.2.2.2.2.2.2.2.2.2 h⟩
    · intro l s wx hl hd hn hf0 K hK
      have hf:=Lib.hid hf0
      clear hf0
      have hB:=hf.out.1
      have e4:=(hf.out.2.2.2.2.2.1 (hd 4 rfl))
      go_simp
      refine hK.out (upd s 41 (.agg (hvals x.2.1))) _ _ (by simp [upd_at,e4] <;> rfl) ⟨hB,fun h=>hf.out.2.1 h,fun h=>hf.out.2.2.1 h,fun h=>hf.out.2.2.2.1 h,fun h=>hf.out.2.2.2.2.1 h,fun h=>hf.out.2.2.2.2.2.1 h,fun h=>hf.out.2.2.2.2.2.2.1 h,fun _=>rfl,fun h=>hf.out.2.2.2.2.2.2.2.2.1 h,fun h=>hf.out.2.2.2.2.2.2.2.2.2.1 h,fun h=>hf.out.2.2.2.2.2.2.2.2.2.2.1 h,fun h=>hf.out.2.2.2.2.2.2.2.2.2.2.2 h⟩
    · intro l s wx hl hd hn hf0 K hK
      have hf:=Lib.hid hf0
      clear hf0
      have hB:=hf.out.1
      have e4:=(hf.out.2.2.2.2.2.1 (hd 4 rfl))
      go_simp
      refine hK.out (upd s 42 (.bool x.2.2)) _ _ (by simp [upd_at,e4] <;> rfl) ⟨hB,fun h=>hf.out.2.1 h,fun h=>hf.out.2.2.1 h,fun h=>hf.out.2.2.2.1 h,fun h=>hf.out.2.2.2.2.1 h,fun h=>hf.out.2.2.2.2.2.1 h,fun h=>hf.out.2.2.2.2.2.2.1 h,fun h=>hf.out.2.2.2.2.2.2.2.1 h,fun _=>rfl,fun h=>hf.out.2.2.2.2.2.2.2.2.2.1 h,fun h=>hf.out.2.2.2.2.2.2.2.2.2.2.1 h,fun h=>absurd h (by rw [show upd l 7 true 12=l 12 from rfl,hn 12 rfl];exact Bool.false_ne_true)⟩
    · intro l s wx hl hd hn hf0 K hK
      have hf:=Lib.hid hf0
      clear hf0
      have hB:=hf.out.1
      go_simp
      refine hK.out (upd s 10 (.pointer (some ⟨wx.heap.size,0,none⟩))) _ _ (by simp [upd_at] <;> rfl) ⟨bT hB (belowAlloc _ _),fun h=>hf.out.2.1 h,fun h=>hf.out.2.2.1 h,fun h=>hf.out.2.2.2.1 h,fun h=>(let ⟨e,X1,X2⟩:=(hf.out.2.2.2.2.1 h);⟨e,own_below X1 (belowAlloc _ _),own_below X2 (belowAlloc _ _)⟩),fun h=>hf.out.2.2.2.2.2.1 h,fun h=>hf.out.2.2.2.2.2.2.1 h,fun h=>hf.out.2.2.2.2.2.2.2.1 h,fun h=>hf.out.2.2.2.2.2.2.2.2.1 h,fun _=>by rw [show upd l 8 true 10=false from hn 10 rfl];exact IsBox.new hB.size,fun h=>IsBox.below (hf.out.2.2.2.2.2.2.2.2.2.2.1 h) (belowAlloc _ _),fun h=>hf.out.2.2.2.2.2.2.2.2.2.2.2 h⟩
    · intro l s wx hl hd hn hf0 K hK
      have hf:=Lib.hid hf0
      clear hf0
      have hB:=hf.out.1
      go_simp
      refine hK.out (upd s 11 (.pointer (some ⟨wx.heap.size,0,none⟩))) _ _ (by simp [upd_at] <;> rfl) ⟨bT hB (belowAlloc _ _),fun h=>hf.out.2.1 h,fun h=>hf.out.2.2.1 h,fun h=>hf.out.2.2.2.1 h,fun h=>(let ⟨e,X1,X2⟩:=(hf.out.2.2.2.2.1 h);⟨e,own_below X1 (belowAlloc _ _),own_below X2 (belowAlloc _ _)⟩),fun h=>hf.out.2.2.2.2.2.1 h,fun h=>hf.out.2.2.2.2.2.2.1 h,fun h=>hf.out.2.2.2.2.2.2.2.1 h,fun h=>hf.out.2.2.2.2.2.2.2.2.1 h,fun h=>IsBox.below (hf.out.2.2.2.2.2.2.2.2.2.1 h) (belowAlloc _ _),fun _=>by rw [show upd l 9 true 11=false from hn 11 rfl];exact IsBox.new hB.size,fun h=>hf.out.2.2.2.2.2.2.2.2.2.2.2 h⟩
    · intro l s wx hl hd hn hf0 K hK
      have hf:=Lib.hid hf0
      clear hf0
      have hB:=hf.out.1
      have e3:=(hf.out.2.2.2.2.1 (hd 3 rfl))
      have e5:=(hf.out.2.2.2.2.2.2.1 (hd 5 rfl))
      have X1:=e3.2.1
      have X2:=e3.2.2
      clear e3
      obtain ⟨bb,eb,hlo,zb⟩:=hf.out.2.2.2.2.2.2.2.2.2.1 (hd 8 rfl)
      rw [hl] at zb
      dsimp only [cond] at zb
      obtain ⟨xa,xp,ea,_⟩:=X1.seg
      obtain ⟨xb,xq,eb2,_⟩:=X2.seg
      rw [ea,eb2] at e5
      go_simp
      have zn:hp (setBox wx bb (cvals x.1 (.slice xa x.1.cells.length xp) (.slice xb x.1.words.length xq))) bb=some (.cells (cvals x.1 (s 1003) (s 1004)) 33):=by rw [ea,eb2];exact hp_set zb
      refine hK.out (s) _ _ (by simp [upd_at,eb,e5,ea,eb2] <;> rfl) ⟨bBx hB hlo,fun h=>hf.out.2.1 h,fun h=>hf.out.2.2.1 h,fun h=>hf.out.2.2.2.1 h,fun h=>⟨(hf.out.2.2.2.2.1 h).1,own_far (hf.out.2.2.2.2.1 h).2.1 zb (by decide),own_far (hf.out.2.2.2.2.1 h).2.2 zb (by decide)⟩,fun h=>hf.out.2.2.2.2.2.1 h,fun h=>hf.out.2.2.2.2.2.2.1 h,fun h=>hf.out.2.2.2.2.2.2.2.1 h,fun h=>hf.out.2.2.2.2.2.2.2.2.1 h,fun _=>⟨bb,eb,hlo,zn⟩,fun h=>IsBox.far (hf.out.2.2.2.2.2.2.2.2.2.2.1 h) zb (by decide),fun h=>hf.out.2.2.2.2.2.2.2.2.2.2.2 h⟩
    · intro l s wx hl hd hn hf0 K hK
      have hf:=Lib.hid hf0
      clear hf0
      have hB:=hf.out.1
      have e3:=(hf.out.2.2.2.2.1 (hd 3 rfl))
      have e6:=(hf.out.2.2.2.2.2.2.2.1 (hd 6 rfl))
      have X1:=e3.2.1
      have X2:=e3.2.2
      clear e3
      obtain ⟨bb,eb,hlo,zb⟩:=hf.out.2.2.2.2.2.2.2.2.2.2.1 (hd 9 rfl)
      rw [hl] at zb
      dsimp only [cond] at zb
      go_simp
      have zn:hp (setBox wx bb (hvals x.2.1)) bb=some (.cells (hvals x.2.1) 36):=by exact hp_set zb
      refine hK.out (s) _ _ (by simp [upd_at,eb,e6] <;> rfl) ⟨bBx hB hlo,fun h=>hf.out.2.1 h,fun h=>hf.out.2.2.1 h,fun h=>hf.out.2.2.2.1 h,fun h=>⟨(hf.out.2.2.2.2.1 h).1,own_far (hf.out.2.2.2.2.1 h).2.1 zb (by decide),own_far (hf.out.2.2.2.2.1 h).2.2 zb (by decide)⟩,fun h=>hf.out.2.2.2.2.2.1 h,fun h=>hf.out.2.2.2.2.2.2.1 h,fun h=>hf.out.2.2.2.2.2.2.2.1 h,fun h=>hf.out.2.2.2.2.2.2.2.2.1 h,fun h=>IsBox.far (hf.out.2.2.2.2.2.2.2.2.2.1 h) zb (by decide),fun _=>⟨bb,eb,hlo,zn⟩,fun h=>hf.out.2.2.2.2.2.2.2.2.2.2.2 h⟩
    · intro l s wx hl hd hn hf0 K hK
      have hf:=Lib.hid hf0
      clear hf0
      have hB:=hf.out.1
      have e7:=(hf.out.2.2.2.2.2.2.2.2.1 (hd 7 rfl))
      go_simp
      refine hK.out (upd s 12 (.bool x.2.2)) _ _ (by simp [upd_at,e7] <;> rfl) ⟨hB,fun h=>hf.out.2.1 h,fun h=>hf.out.2.2.1 h,fun h=>hf.out.2.2.2.1 h,fun h=>hf.out.2.2.2.2.1 h,fun h=>hf.out.2.2.2.2.2.1 h,fun h=>hf.out.2.2.2.2.2.2.1 h,fun h=>hf.out.2.2.2.2.2.2.2.1 h,fun h=>hf.out.2.2.2.2.2.2.2.2.1 h,fun h=>hf.out.2.2.2.2.2.2.2.2.2.1 h,fun h=>hf.out.2.2.2.2.2.2.2.2.2.2.1 h,fun _=>rfl⟩
    · intro l s wx hl hd hn hf0 K hK
      have hf:=Lib.hid hf0
      clear hf0
      have hB:=hf.out.1
      have z:=hpS z_w6 hB
      go_simp
      refine hK.out (upd s 58 (.agg (cvals c (.slice (some ⟨g3,0,none⟩) c.cells.length c.cells.length) (.slice (some ⟨g4,0,none⟩) c.words.length c.words.length)))) _ _ (by simp [upd_at] <;> rfl) ⟨hB,fun _=>rfl,fun h=>hf.out.2.2.1 h,fun h=>hf.out.2.2.2.1 h,fun h=>absurd h (by rw [show upd l 0 true 3=l 3 from rfl,hn 3 rfl];exact Bool.false_ne_true),fun h=>absurd h (by rw [show upd l 0 true 4=l 4 from rfl,hn 4 rfl];exact Bool.false_ne_true)⟩
    · intro l s wx hl hd hn hf0 K hK
      have hf:=Lib.hid hf0
      clear hf0
      have hB:=hf.out.1
      have z:=hpS z_w hB
      go_simp
      refine hK.out (upd s 59 (.agg (cvals c (.slice a c.cells.length p) (.slice b c.words.length q)))) _ _ (by simp [upd_at] <;> rfl) ⟨hB,fun h=>hf.out.2.1 h,fun _=>rfl,fun h=>absurd h (by rw [show upd l 1 true 2=l 2 from rfl,hn 2 rfl];exact Bool.false_ne_true),fun h=>absurd h (by rw [show upd l 1 true 3=l 3 from rfl,hn 3 rfl];exact Bool.false_ne_true),fun h=>absurd h (by rw [show upd l 1 true 4=l 4 from rfl,hn 4 rfl];exact Bool.false_ne_true)⟩
    · intro l s wx hl hd hn hf0 K hK
      have hf:=Lib.hid hf0
      clear hf0
      have hB:=hf.out.1
      have e1:=(hf.out.2.2.1 (hd 1 rfl))
      go_simp
      go_at_call 7
      refine (toChan_any c a b p q _ ((H1.out.below (bT hB10 hB)).more (bT hB10 hB).size) ((H2.out.below (bT hB10 hB)).more (bT hB10 hB).size) n1 n2).mono ?_
      rintro _ wy ⟨⟨g1,g2,rfl,_,_,R1,R2⟩,hE⟩
      refine hK.out (upd s 60 (.agg (cvals c (.slice (some ⟨g1,0,none⟩) c.cells.length c.cells.length) (.slice (some ⟨g2,0,none⟩) c.words.length c.words.length)))) _ _ (by simp [upd_at,e1] <;> rfl) ⟨bT hB hE,fun h=>hf.out.2.1 h,fun h=>hf.out.2.2.1 h,fun _=>⟨g1,g2,rfl,R1,R2⟩,fun h=>absurd h (by rw [show upd l 2 true 3=l 3 from rfl,hn 3 rfl];exact Bool.false_ne_true),fun h=>absurd h (by rw [show upd l 2 true 4=l 4 from rfl,hn 4 rfl];exact Bool.false_ne_true)⟩
    · intro l s wx hl hd hn hf0 K hK
      have hf:=Lib.hid hf0
      clear hf0
      have hB:=hf.out.1
      have e0:=(hf.out.2.1 (hd 0 rfl))
      obtain ⟨g1,g2,e2,R1,R2⟩:=hf.out.2.2.2.1 (hd 2 rfl)
      go_simp
      go_at_call 10
      refine (eqChan_any c _ _ _ _ _ _ _ _ _ (C3.segAt hB) (C4.segAt hB) R1.seg R2.seg n1 n2).mono ?_
      rintro _ wy ⟨rfl,hE⟩
      refine hK.out (upd s 61 (.bool true)) _ _ (by simp [upd_at,e0,e2] <;> rfl) ⟨bT hB hE,fun h=>hf.out.2.1 h,fun h=>hf.out.2.2.1 h,fun h=>(let ⟨g1,g2,e,R1,R2⟩:=(hf.out.2.2.2.1 h);⟨g1,g2,e,R1.belowS hE,R2.belowS hE⟩),fun _=>rfl,fun h=>absurd h (by rw [show upd l 3 true 4=l 4 from rfl,hn 4 rfl];exact Bool.false_ne_true)⟩
    · intro l s wx hl hd hn hf0 K hK
      have hf:=Lib.hid hf0
      clear hf0
      have hB:=hf.out.1
      have e3:=(hf.out.2.2.2.2.1 (hd 3 rfl))
      go_simp
      refine hK.out (upd s 62 (.bool false)) _ _ (by simp [upd_at,e3] <;> rfl) ⟨hB,fun h=>hf.out.2.1 h,fun h=>hf.out.2.2.1 h,fun h=>hf.out.2.2.2.1 h,fun h=>hf.out.2.2.2.2.1 h,fun _=>rfl⟩
    · intro l s wx hl hd hn hf0 K hK
      have hf:=Lib.hid hf0
      clear hf0
      have hB:=hf.out.1
      have z:=hpS z_w hB
      go_simp
      refine hK.out (upd s 97 (.agg (cvals c (.slice a c.cells.length p) (.slice b c.words.length q)))) _ _ (by simp [upd_at] <;> rfl) ⟨hB,fun _=>rfl,fun h=>absurd h (by rw [show upd l 0 true 1=l 1 from rfl,hn 1 rfl];exact Bool.false_ne_true),fun h=>hf.out.2.2.2.1 h,fun h=>hf.out.2.2.2.2.1 h,fun h=>absurd h (by rw [show upd l 0 true 4=l 4 from rfl,hn 4 rfl];exact Bool.false_ne_true),fun h=>absurd h (by rw [show upd l 0 true 5=l 5 from rfl,hn 5 rfl];exact Bool.false_ne_true),fun h=>absurd h (by rw [show upd l 0 true 6=l 6 from rfl,hn 6 rfl];exact Bool.false_ne_true),fun h=>absurd h (by rw [show upd l 0 true 7=l 7 from rfl,hn 7 rfl];exact Bool.false_ne_true),fun h=>absurd h (by rw [show upd l 0 true 8=l 8 from rfl,hn 8 rfl];exact Bool.false_ne_true),fun h=>hf.out.2.2.2.2.2.2.2.2.2.2.1 h,fun h=>hf.out.2.2.2.2.2.2.2.2.2.2.2.1 h,fun h=>absurd h (by rw [show upd l 0 true 13=l 13 from rfl,hn 13 rfl];exact Bool.false_ne_true)⟩
    · intro l s wx hl hd hn hf0 K hK
      have hf:=Lib.hid hf0
      clear hf0
      have hB:=hf.out.1
      have e0:=(hf.out.2.1 (hd 0 rfl))
      go_simp
      go_at_call 7
      refine (toChan_any c a b p q _ ((H1.out.below (bT hB16 hB)).more (bT hB16 hB).size) ((H2.out.below (bT hB16 hB)).more (bT hB16 hB).size) n1 n2).mono ?_
      rintro _ wy ⟨⟨g1,g2,rfl,_,_,R1,R2⟩,hE⟩
      refine hK.out (upd s 98 (.agg (cvals c (.slice (some ⟨g1,0,none⟩) c.cells.length c.cells.length) (.slice (some ⟨g2,0,none⟩) c.words.length c.words.length)))) _ _ (by simp [upd_at,e0] <;> rfl) ⟨bT hB hE,fun h=>hf.out.2.1 h,fun _ _=>⟨g1,g2,rfl,R1,R2⟩,fun h=>hf.out.2.2.2.1 h,fun h=>hf.out.2.2.2.2.1 h,fun h=>absurd h (by rw [show upd l 1 true 4=l 4 from rfl,hn 4 rfl];exact Bool.false_ne_true),fun h=>absurd h (by rw [show upd l 1 true 5=l 5 from rfl,hn 5 rfl];exact Bool.false_ne_true),fun h=>absurd h (by rw [show upd l 1 true 6=l 6 from rfl,hn 6 rfl];exact Bool.false_ne_true),fun h=>absurd h (by rw [show upd l 1 true 7=l 7 from rfl,hn 7 rfl];exact Bool.false_ne_true),fun h=>absurd h (by rw [show upd l 1 true 8=l 8 from rfl,hn 8 rfl];exact Bool.false_ne_true),fun h=>IsBox.below (hf.out.2.2.2.2.2.2.2.2.2.2.1 h) hE,fun h=>IsBox.below (hf.out.2.2.2.2.2.2.2.2.2.2.2.1 h) hE,fun h=>absurd h (by rw [show upd l 1 true 13=l 13 from rfl,hn 13 rfl];exact Bool.false_ne_true)⟩
    · intro l s wx hl hd hn hf0 K hK
      have hf:=Lib.hid hf0
      clear hf0
      have hB:=hf.out.1
      have z:=hpS z_wp hB
      go_simp
      refine hK.out (upd s 99 (.agg (hvals h))) _ _ (by simp [upd_at] <;> rfl) ⟨hB,fun h=>hf.out.2.1 h,fun h=>hf.out.2.2.1 h,fun _=>rfl,fun h=>absurd h (by rw [show upd l 2 true 3=l 3 from rfl,hn 3 rfl];exact Bool.false_ne_true),fun h=>absurd h (by rw [show upd l 2 true 4=l 4 from rfl,hn 4 rfl];exact Bool.false_ne_true),fun h=>absurd h (by rw [show upd l 2 true 5=l 5 from rfl,hn 5 rfl];exact Bool.false_ne_true),fun h=>absurd h (by rw [show upd l 2 true 6=l 6 from rfl,hn 6 rfl];exact Bool.false_ne_true),fun h=>absurd h (by rw [show upd l 2 true 7=l 7 from rfl,hn 7 rfl];exact Bool.false_ne_true),fun h=>absurd h (by rw [show upd l 2 true 8=l 8 from rfl,hn 8 rfl];exact Bool.false_ne_true),fun h=>hf.out.2.2.2.2.2.2.2.2.2.2.1 h,fun h=>hf.out.2.2.2.2.2.2.2.2.2.2.2.1 h,fun h=>absurd h (by rw [show upd l 2 true 13=l 13 from rfl,hn 13 rfl];exact Bool.false_ne_true)⟩
    · intro l s wx hl hd hn hf0 K hK
      have hf:=Lib.hid hf0
      clear hf0
      have hB:=hf.out.1
      have e2:=(hf.out.2.2.2.1 (hd 2 rfl))
      go_simp
      go_at_call 8
      refine (toHand_any h _).mono ?_
      rintro _ wy ⟨rfl,hE⟩
      refine hK.out (upd s 100 (.agg (hvals h))) _ _ (by simp [upd_at,e2] <;> rfl) ⟨bT hB hE,fun h=>hf.out.2.1 h,fun h=>fun h4=>(let ⟨g1,g2,e,R1,R2⟩:=(hf.out.2.2.1 h) h4;⟨g1,g2,e,R1.belowS hE,R2.belowS hE⟩),fun h=>hf.out.2.2.2.1 h,fun _=>rfl,fun h=>absurd h (by rw [show upd l 3 true 4=l 4 from rfl,hn 4 rfl];exact Bool.false_ne_true),fun h=>absurd h (by rw [show upd l 3 true 5=l 5 from rfl,hn 5 rfl];exact Bool.false_ne_true),fun h=>absurd h (by rw [show upd l 3 true 6=l 6 from rfl,hn 6 rfl];exact Bool.false_ne_true),fun h=>absurd h (by rw [show upd l 3 true 7=l 7 from rfl,hn 7 rfl];exact Bool.false_ne_true),fun h=>absurd h (by rw [show upd l 3 true 8=l 8 from rfl,hn 8 rfl];exact Bool.false_ne_true),fun h=>IsBox.below (hf.out.2.2.2.2.2.2.2.2.2.2.1 h) hE,fun h=>IsBox.below (hf.out.2.2.2.2.2.2.2.2.2.2.2.1 h) hE,fun h=>absurd h (by rw [show upd l 3 true 13=l 13 from rfl,hn 13 rfl];exact Bool.false_ne_true)⟩
    · intro l s wx hl hd hn hf0 K hK
      have hf:=Lib.hid hf0
      clear hf0
      have hB:=hf.out.1
      have et:=hf.out.2.2.2.2.1 (hd 3 rfl)
      obtain ⟨g1,g2,ec,R1,R2⟩:=hf.out.2.2.1 (hd 1 rfl) hl
      go_simp
      go_at_call 15
      refine (HI.out _ _ _ _ _ R1.seg (fun e=>by cases e) R2.seg (fun e=>by cases e)).mono ?_
      rintro _ wy ⟨⟨v1,v2,rfl,X1,X2,_,_⟩,hE⟩
      refine hK.out (upd (upd (upd s 1003 (v1)) 1004 (v2)) 101 (.tuple #[.agg (cvals x.1 v1 v2),.agg (hvals x.2.1),.bool x.2.2])) _ _ (by simp [upd_at,ec,et] <;> rfl) ⟨bT hB hE,fun h=>hf.out.2.1 h,fun _ h4=>absurd h4 (by rw [show upd l 4 true 4=true from rfl];decide),fun h=>hf.out.2.2.2.1 h,fun h=>hf.out.2.2.2.2.1 h,fun _=>⟨rfl,own_lo X1 hB.size,own_lo X2 hB.size⟩,fun h=>absurd h (by rw [show upd l 4 true 5=l 5 from rfl,hn 5 rfl];exact Bool.false_ne_true),fun h=>absurd h (by rw [show upd l 4 true 6=l 6 from rfl,hn 6 rfl];exact Bool.false_ne_true),fun h=>absurd h (by rw [show upd l 4 true 7=l 7 from rfl,hn 7 rfl];exact Bool.false_ne_true),fun h=>absurd h (by rw [show upd l 4 true 8=l 8 from rfl,hn 8 rfl];exact Bool.false_ne_true),fun h=>by (have ee:l 11=false:=hn 11 rfl);(have F:=hf.out.2.2.2.2.2.2.2.2.2.2.1 h);rw [ee] at F;rw [show upd l 4 true 11=false from ee];exact F.below hE,fun h=>by (have ee:l 12=false:=hn 12 rfl);(have F:=hf.out.2.2.2.2.2.2.2.2.2.2.2.1 h);rw [ee] at F;rw [show upd l 4 true 12=false from ee];exact F.below hE,fun h=>absurd h (by rw [show upd l 4 true 13=l 13 from rfl,hn 13 rfl];exact Bool.false_ne_true)⟩
    · intro l s wx hl hd hn hf0 K hK
      have hf:=Lib.hid hf0
      clear hf0
      have hB:=hf.out.1
      have e4:=(hf.out.2.2.2.2.2.1 (hd 4 rfl)).1
      go_simp
      refine hK.out (upd s 96 (.tuple #[.agg (cvals x.1 (s 1003) (s 1004)),.agg (hvals x.2.1),.bool x.2.2])) _ _ (by simp [upd_at,e4] <;> rfl) ⟨hB,fun h=>hf.out.2.1 h,fun h=>hf.out.2.2.1 h,fun h=>hf.out.2.2.2.1 h,fun h=>hf.out.2.2.2.2.1 h,fun h=>hf.out.2.2.2.2.2.1 h,fun _=>rfl,fun h=>absurd h (by rw [show upd l 5 true 6=l 6 from rfl,hn 6 rfl];exact Bool.false_ne_true),fun h=>absurd h (by rw [show upd l 5 true 7=l 7 from rfl,hn 7 rfl];exact Bool.false_ne_true),fun h=>absurd h (by rw [show upd l 5 true 8=l 8 from rfl,hn 8 rfl];exact Bool.false_ne_true),fun h=>hf.out.2.2.2.2.2.2.2.2.2.2.1 h,fun h=>hf.out.2.2.2.2.2.2.2.2.2.2.2.1 h,fun h=>absurd h (by rw [show upd l 5 true 13=l 13 from rfl,hn 13 rfl];exact Bool.false_ne_true)⟩
    · intro l s wx hl hd hn hf0 K hK
      have hf:=Lib.hid hf0
      clear hf0
      have hB:=hf.out.1
      have e5:=(hf.out.2.2.2.2.2.2.1 (hd 5 rfl))
      go_simp
      refine hK.out (upd s 102 (.agg (cvals x.1 (s 1003) (s 1004)))) _ _ (by simp [upd_at,e5] <;> rfl) ⟨hB,fun h=>hf.out.2.1 h,fun h=>hf.out.2.2.1 h,fun h=>hf.out.2.2.2.1 h,fun h=>hf.out.2.2.2.2.1 h,fun h=>hf.out.2.2.2.2.2.1 h,fun h=>hf.out.2.2.2.2.2.2.1 h,fun _=>rfl,fun h=>hf.out.2.2.2.2.2.2.2.2.1 h,fun h=>hf.out.2.2.2.2.2.2.2.2.2.1 h,fun h=>hf.out.2.2.2.2.2.2.2.2.2.2.1 h,fun h=>hf.out.2.2.2.2.2.2.2.2.2.2.2.1 h,fun h=>hf.out.2.2.2.2.2.2.2.2.2.2.2.2 h⟩
    · intro l s wx hl hd hn hf0 K hK
      have hf:=Lib.hid hf0
      clear hf0
      have hB:=hf.out.1
      have e5:=(hf.out.2.2.2.2.2.2.1 (hd 5 rfl))
      go_simp
      refine hK.out (upd s 103 (.agg (hvals x.2.1))) _ _ (by simp [upd_at,e5] <;> rfl) ⟨hB,fun h=>hf.out.2.1 h,fun h=>hf.out.2.2.1 h,fun h=>hf.out.2.2.2.1 h,fun h=>hf.out.2.2.2.2.1 h,fun h=>hf.out.2.2.2.2.2.1 h,fun h=>hf.out.2.2.2.2.2.2.1 h,fun h=>hf.out.2.2.2.2.2.2.2.1 h,fun _=>rfl,fun h=>hf.out.2.2.2.2.2.2.2.2.2.1 h,fun h=>hf.out.2.2.2.2.2.2.2.2.2.2.1 h,fun h=>hf.out.2.2.2.2.2.2.2.2.2.2.2.1 h,fun h=>hf.out.2.2.2.2.2.2.2.2.2.2.2.2 h⟩
    · intro l s wx hl hd hn hf0 K hK
      have hf:=Lib.hid hf0
      clear hf0
      have hB:=hf.out.1
      have e5:=(hf.out.2.2.2.2.2.2.1 (hd 5 rfl))
      go_simp
      refine hK.out (upd s 104 (.bool x.2.2)) _ _ (by simp [upd_at,e5] <;> rfl) ⟨hB,fun h=>hf.out.2.1 h,fun h=>hf.out.2.2.1 h,fun h=>hf.out.2.2.2.1 h,fun h=>hf.out.2.2.2.2.1 h,fun h=>hf.out.2.2.2.2.2.1 h,fun h=>hf.out.2.2.2.2.2.2.1 h,fun h=>hf.out.2.2.2.2.2.2.2.1 h,fun h=>hf.out.2.2.2.2.2.2.2.2.1 h,fun _=>rfl,fun h=>hf.out.2.2.2.2.2.2.2.2.2.2.1 h,fun h=>hf.out.2.2.2.2.2.2.2.2.2.2.2.1 h,fun h=>absurd h (by rw [show upd l 8 true 13=l 13 from rfl,hn 13 rfl];exact Bool.false_ne_true)⟩
    · intro l s wx hl hd hn hf0 K hK
      have hf:=Lib.hid hf0
      clear hf0
      have hB:=hf.out.1
      go_simp
      refine hK.out (upd s 16 (.pointer (some ⟨wx.heap.size,0,none⟩))) _ _ (by simp [upd_at] <;> rfl) ⟨bT hB (belowAlloc _ _),fun h=>hf.out.2.1 h,fun h=>fun h4=>(let ⟨g1,g2,e,R1,R2⟩:=(hf.out.2.2.1 h) h4;⟨g1,g2,e,R1.belowS (belowAlloc _ _),R2.belowS (belowAlloc _ _)⟩),fun h=>hf.out.2.2.2.1 h,fun h=>hf.out.2.2.2.2.1 h,fun h=>(let ⟨e,X1,X2⟩:=(hf.out.2.2.2.2.2.1 h);⟨e,own_below X1 (belowAlloc _ _),own_below X2 (belowAlloc _ _)⟩),fun h=>hf.out.2.2.2.2.2.2.1 h,fun h=>hf.out.2.2.2.2.2.2.2.1 h,fun h=>hf.out.2.2.2.2.2.2.2.2.1 h,fun h=>hf.out.2.2.2.2.2.2.2.2.2.1 h,fun _=>by rw [show upd l 9 true 11=false from hn 11 rfl];exact IsBox.new hB.size,fun h=>IsBox.below (hf.out.2.2.2.2.2.2.2.2.2.2.2.1 h) (belowAlloc _ _),fun h=>hf.out.2.2.2.2.2.2.2.2.2.2.2.2 h⟩
    · intro l s wx hl hd hn hf0 K hK
      have hf:=Lib.hid hf0
      clear hf0
      have hB:=hf.out.1
      go_simp
      refine hK.out (upd s 17 (.pointer (some ⟨wx.heap.size,0,none⟩))) _ _ (by simp [upd_at] <;> rfl) ⟨bT hB (belowAlloc _ _),fun h=>hf.out.2.1 h,fun h=>fun h4=>(let ⟨g1,g2,e,R1,R2⟩:=(hf.out.2.2.1 h) h4;⟨g1,g2,e,R1.belowS (belowAlloc _ _),R2.belowS (belowAlloc _ _)⟩),fun h=>hf.out.2.2.2.1 h,fun h=>hf.out.2.2.2.2.1 h,fun h=>(let ⟨e,X1,X2⟩:=(hf.out.2.2.2.2.2.1 h);⟨e,own_below X1 (belowAlloc _ _),own_below X2 (belowAlloc _ _)⟩),fun h=>hf.out.2.2.2.2.2.2.1 h,fun h=>hf.out.2.2.2.2.2.2.2.1 h,fun h=>hf.out.2.2.2.2.2.2.2.2.1 h,fun h=>hf.out.2.2.2.2.2.2.2.2.2.1 h,fun h=>IsBox.below (hf.out.2.2.2.2.2.2.2.2.2.2.1 h) (belowAlloc _ _),fun _=>by rw [show upd l 10 true 12=false from hn 12 rfl];exact IsBox.new hB.size,fun h=>hf.out.2.2.2.2.2.2.2.2.2.2.2.2 h⟩
    · intro l s wx hl hd hn hf0 K hK
      have hf:=Lib.hid hf0
      clear hf0
      have hB:=hf.out.1
      have e4:=(hf.out.2.2.2.2.2.1 (hd 4 rfl))
      have e6:=(hf.out.2.2.2.2.2.2.2.1 (hd 6 rfl))
      have X1:=e4.2.1
      have X2:=e4.2.2
      clear e4
      obtain ⟨bb,eb,hlo,zb⟩:=hf.out.2.2.2.2.2.2.2.2.2.2.1 (hd 9 rfl)
      rw [hl] at zb
      dsimp only [cond] at zb
      obtain ⟨xa,xp,ea,_⟩:=X1.seg
      obtain ⟨xb,xq,eb2,_⟩:=X2.seg
      rw [ea,eb2] at e6
      go_simp
      have zn:hp (setBox wx bb (cvals x.1 (.slice xa x.1.cells.length xp) (.slice xb x.1.words.length xq))) bb=some (.cells (cvals x.1 (s 1003) (s 1004)) 33):=by rw [ea,eb2];exact hp_set zb
      refine hK.out (s) _ _ (by simp [upd_at,eb,e6,ea,eb2] <;> rfl) ⟨bBx hB hlo,fun h=>hf.out.2.1 h,fun _ h4=>absurd ((hd 4 rfl).symm.trans h4) (by decide),fun h=>hf.out.2.2.2.1 h,fun h=>hf.out.2.2.2.2.1 h,fun h=>⟨(hf.out.2.2.2.2.2.1 h).1,own_far (hf.out.2.2.2.2.2.1 h).2.1 zb (by decide),own_far (hf.out.2.2.2.2.2.1 h).2.2 zb (by decide)⟩,fun h=>hf.out.2.2.2.2.2.2.1 h,fun h=>hf.out.2.2.2.2.2.2.2.1 h,fun h=>hf.out.2.2.2.2.2.2.2.2.1 h,fun h=>hf.out.2.2.2.2.2.2.2.2.2.1 h,fun _=>⟨bb,eb,hlo,zn⟩,fun h=>IsBox.far (hf.out.2.2.2.2.2.2.2.2.2.2.2.1 h) zb (by decide),fun h=>hf.out.2.2.2.2.2.2.2.2.2.2.2.2 h⟩
    · intro l s wx hl hd hn hf0 K hK
      have hf:=Lib.hid hf0
      clear hf0
      have hB:=hf.out.1
      have e4:=(hf.out.2.2.2.2.2.1 (hd 4 rfl))
      have e7:=(hf.out.2.2.2.2.2.2.2.2.1 (hd 7 rfl))
      have X1:=e4.2.1
      have X2:=e4.2.2
      clear e4
      obtain ⟨bb,eb,hlo,zb⟩:=hf.out.2.2.2.2.2.2.2.2.2.2.2.1 (hd 10 rfl)
      rw [hl] at zb
      dsimp only [cond] at zb
      go_simp
      have zn:hp (setBox wx bb (hvals x.2.1)) bb=some (.cells (hvals x.2.1) 36):=by exact hp_set zb
      refine hK.out (s) _ _ (by simp [upd_at,eb,e7] <;> rfl) ⟨bBx hB hlo,fun h=>hf.out.2.1 h,fun _ h4=>absurd ((hd 4 rfl).symm.trans h4) (by decide),fun h=>hf.out.2.2.2.1 h,fun h=>hf.out.2.2.2.2.1 h,fun h=>⟨(hf.out.2.2.2.2.2.1 h).1,own_far (hf.out.2.2.2.2.2.1 h).2.1 zb (by decide),own_far (hf.out.2.2.2.2.2.1 h).2.2 zb (by decide)⟩,fun h=>hf.out.2.2.2.2.2.2.1 h,fun h=>hf.out.2.2.2.2.2.2.2.1 h,fun h=>hf.out.2.2.2.2.2.2.2.2.1 h,fun h=>hf.out.2.2.2.2.2.2.2.2.2.1 h,fun h=>IsBox.far (hf.out.2.2.2.2.2.2.2.2.2.2.1 h) zb (by decide),fun _=>⟨bb,eb,hlo,zn⟩,fun h=>hf.out.2.2.2.2.2.2.2.2.2.2.2.2 h⟩
    · intro l s wx hl hd hn hf0 K hK
      have hf:=Lib.hid hf0
      clear hf0
      have hB:=hf.out.1
      have e8:=(hf.out.2.2.2.2.2.2.2.2.2.1 (hd 8 rfl))
      go_simp
      refine hK.out (upd s 18 (.bool x.2.2)) _ _ (by simp [upd_at,e8] <;> rfl) ⟨hB,fun h=>hf.out.2.1 h,fun h=>hf.out.2.2.1 h,fun h=>hf.out.2.2.2.1 h,fun h=>hf.out.2.2.2.2.1 h,fun h=>hf.out.2.2.2.2.2.1 h,fun h=>hf.out.2.2.2.2.2.2.1 h,fun h=>hf.out.2.2.2.2.2.2.2.1 h,fun h=>hf.out.2.2.2.2.2.2.2.2.1 h,fun h=>hf.out.2.2.2.2.2.2.2.2.2.1 h,fun h=>hf.out.2.2.2.2.2.2.2.2.2.2.1 h,fun h=>hf.out.2.2.2.2.2.2.2.2.2.2.2.1 h,fun _=>rfl⟩
end Go.Proofs.Ytkiingmgpobgnaa
set_option linter.unusedSimpArgs false
set_option linter.unusedVariables false
namespace Go.Proofs.Ytkiingmgpobgnaa
open Go.ChangeShapes Go.WideShapes Go.ChangeAt Go.RowKit
set_option linter.unusedVariables false
namespace FnExactParkStep
set_option maxRecDepth 100000 in
theorem lifted (os:Os) (started:os.Started) (H:Type) (enc:TypeId × Value→H) :
    ReturnsInHanded {} Try.checked os 4 .any (Rows.fnExactParkStepSpec.pre6 enc Try.prog Try.f4 Rows.fnExactParkStepRow.domain false) (Rows.fnExactParkStepSpec.post enc Try.prog Try.f4 false true false false):=by
  refine returnsInHanded_of_change (C:=Try.checked) own started (by kernel_rfl) Try.func4
    (ChangeSpec.witness6 (enc:=enc) (C:=Try.checked) false ⟨#[],#[.agg #[.int .i64 0,.int .i64 0,.int .i64 0,.int .i64 0,.slice none 0 0,.slice none 0 0],.agg #[.int .i64 0,.int .i64 0,.int .i64 0,.int .i64 0,.int .i64 0,.int .i64 0,.int .i64 0,.int .i64 0,.int .i64 0,.int .i64 0,.int .i64 0,.int .i64 0,.int .i64 0,.int .i64 0]],[]⟩ 8 (by kernel_rfl) (by kernel_rfl) (by kernel_rfl) (by kernel_rfl)) ?_
  intro W base args ds gs before hval0 hW hcnd _
  have hval:∀ (j:Nat) t v,Try.f4.params[j]?=some t→args[j]?=some v→Value.okWide Try.prog W .any base t v:=hval0
  have hW':=hW
  obtain ⟨p,q,hA0,hV,rfl,hfz,hnd⟩:=hW
  have hA:DataW.TrodAll enc Try.prog W 0 (fun _=>true) true Try.f4.params.toList args.toList ds p:=hA0
  rw [Try.params4] at hA hval
  obtain ⟨v0,vs0,d0,ds0,p0,q0,hargs,rfl,rfl,h0,r0⟩:=trodAll_cons hA
  obtain ⟨v1,vs1,d1,ds1,p1,q1,rfl,rfl,rfl,h1,r1⟩:=trodAll_cons r0
  obtain ⟨rfl,rfl,rfl⟩:=trodAll_nil r1
  obtain rfl:args=#[v0,v1]:=by cases args;simp_all
  obtain ⟨rfl,rfl⟩:=trodVars_none hV
  have k0:=h0
  have lt0:∀ x ∈ p0,x.block<W.heap.size:=by obtain ⟨m,hm⟩:=k0;exact DataW.trod_lt m _ _ _ hm
  obtain ⟨c0,sa0,sb0,sp0,sq0,rfl,m0,n0,S0,T0⟩:=oChan (hval 0 25 v0 rfl rfl) h0
  have k1:=h1
  have lt1:∀ x ∈ p1,x.block<W.heap.size:=by obtain ⟨m,hm⟩:=k1;exact DataW.trod_lt m _ _ _ hm
  obtain ⟨h1y,rfl⟩:=oHand (hval 1 29 v1 rfl rfl) h1
  clear hA0 hval0
  refine (exactParkStep_any c0 h1y sa0 sb0 sp0 sq0 W S0 T0 m0 n0).mono fun e W' ⟨he,bel⟩=>?_
  subst he
  exact ⟨_,rfl,_,_,_,[],_,[],hW',trodAll_mk1 (shut_bool Try.underlying4 _),(trodAll_cons_mk (Below.trod laidOut (by kernel_rfl) (of_decide_eq_true (by kernel_rfl)) k0 bel lt0) (trodAll_cons_mk (Below.trod laidOut (by kernel_rfl) (of_decide_eq_true (by kernel_rfl)) k1 bel lt1) trodAll_mk0)),rfl,bel.frame _,fun h=>by cases h⟩
theorem over:Rows.fnExactParkStepRow.holds Try.pinned (OpenSpec.ofChange Rows.fnExactParkStepSpec) :=
  OpenClaim.holds_of_wide 4 Try.f4 rfl rfl rfl rfl rfl rfl rfl ⟨rfl,rfl,rfl,rfl,rfl⟩ rfl rfl rfl rfl rfl (by kernel_rfl) Try.func4 (by kernel_rfl)
    (of_decide_eq_true (by kernel_rfl)) (by unfold Func.isWrapper;first|(rw [if_pos (by decide +kernel)];kernel_rfl)|(rw [if_neg (by decide +kernel)];exact ⟨rfl,rfl⟩))
    (fun os started H enc _=>lifted os started H enc)
end FnExactParkStep
/-- The statement. -/
theorem fnExactParkStep_proved:Rows.FnExactParkStepSaid:=FnExactParkStep.over

end Go.Proofs.Ytkiingmgpobgnaa
