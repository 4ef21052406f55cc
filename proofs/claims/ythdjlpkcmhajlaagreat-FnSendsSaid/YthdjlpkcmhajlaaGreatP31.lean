/-
  The program's step of sending, on hands and channels that are kept whole; lists lie in memory.
-/
import Derived.Test.YthdjlpkcmhajlaaGreatP30
import Derived.Test.YthdjlpkcmhajlaaGreatP15
import Derived.Laws.EntriesVeiled
import Derived.BigRegion
set_option linter.unusedSimpArgs false
set_option linter.unusedVariables false
namespace Go.Proofs.YthdjlpkcmhajlaaGreat
open Go.RowKit
set_option linter.unusedSimpArgs false
attribute [local simp] bx_size
attribute [local go_sem ↓] zeroHand zeroChan toLHand toLChan toVHand toVChan storeHand storeChan storeHandC storeChanC
def tbl:Array Value:=#[.nilFunc,.func (.func 43) #[] #[],.func (.func 44) #[] #[],.func (.func 45) #[] #[],.func (.func 46) #[] #[],.func (.func 47) #[] #[],.func (.func 48) #[] #[],.func (.func 49) #[] #[],.func (.func 50) #[] #[]]
set_option maxRecDepth 100000 in
set_option maxHeartbeats 2000000 in
theorem touches_any (w:World):Calls Tryz.prog 15 #[] w fun r w'=>r=.returned (.agg tbl)∧Below w.heap.size w w':=by
  go_enter Tryz.func15,Tryz.ntmps15
  go_wp2
  refine bodyPost_ret (v:=.agg tbl) (by simp [results,Tryz.results15,go_sem,tbl, *]) rfl ⟨rfl,by exact zB⟩
theorem iChanOk_any (c:Ch) (a b:Option Addr) (p q:Nat) (w:World) (h1:Seg w w.heap.size a c.cells.length 3 (cellF c.cells)) (h2:Seg w w.heap.size b c.words.length 1 (intF c.words)) (m1:c.cells.length≤maxLen) (m2:c.words.length≤maxLen) :
    Calls Tryz.prog 9 #[.agg (cvals c (.slice a c.cells.length p) (.slice b c.words.length q))] w fun r w'=>r=.returned (.bool (chanOk c))∧Below w.heap.size w w':=chanOk_any c a b p q w h1 h2 m1 m2
theorem iCopied_any (c:Ch) (a b:Option Addr) (p q:Nat) (w:World) (h1:Seg w w.heap.size a c.cells.length 3 (cellF c.cells)) (z1:a=none→p=0) (h2:Seg w w.heap.size b c.words.length 1 (intF c.words)) (z2:b=none→q=0) (m1:c.cells.length≤1099511627776) (m2:c.words.length≤1099511627776) :
    Calls Tryz.prog 16 #[.agg (cvals c (.slice a c.cells.length p) (.slice b c.words.length q))] w fun r w'=>(∃ v1 v2,r=.returned (.agg (cvals c v1 v2))∧OCells w' w.heap.size v1 c.cells∧OInts w' w.heap.size v2 c.words)∧Below w.heap.size w w':=copied_any c a b p q w h1 z1 h2 z2 m1 m2
def fin6 (x:St):St:=if x.2.2 then done x.1 x.2.1 else nothing
theorem funcNil (F:Nat) (w:World):(binOp .eql 44 (.func (.func F) #[] #[]) .nilFunc).run Tryz.prog w=.ok (.bool false) w:=by
  have u:=Tryz.underlying44
  simp only [binOp,Op.equal,Op.maxDepth]
  rw [show (10000:Nat)=9999+1 from rfl]
  generalize (9999:Nat)=d
  rw [Op.equalIn]
  simp [Sem.run_bind,run_underlying u,Result.andThen]
attribute [local go_sem ↓] funcNil
theorem own_max {w:World} {lo:Nat} {e:TypeId} {k n p:Nat} {a:Option Addr} {xs:List Value} (h:w.ownsRow lo e k (.slice a n p) n xs):n≤maxLen:=by
  rcases h.2 with ⟨_,h1⟩|⟨g,cap,cur,_,_,_,h1,h2,_⟩
  · omega
  · exact Nat.le_trans h1 h2
set_option maxRecDepth 100000 in
set_option maxHeartbeats 8000000 in
theorem sendStep_via (F k:Nat) (x:St) (c:Ch) (h:Ha) (a b:Option Addr) (p q:Nat) (w:World) (h1:Seg w w.heap.size a c.cells.length 3 (cellF c.cells)) (z1:a=none→p=0) (h2:Seg w w.heap.size b c.words.length 1 (intF c.words)) (z2:b=none→q=0) (hc:chanOk c=true) (hh:handOk h=true) (hk:h.code=1) (hpos:h.pos=(k:Int)) (hk9:k<9) (hfun:tbl[k]?=some (.func (.func F) #[] #[])) (eg:∀ args w,(callFunc F args).run Tryz.prog w=.ok (.enter F args) w) (HF:∀ (v1 v2:Value) (lo:Nat) (W:World),OCells W lo v1 c.cells→OInts W lo v2 c.words→lo≤W.heap.size→Calls Tryz.prog F #[.agg (cvals c v1 v2),.agg (hvals h)] W fun r w'=>StepO W w' lo v1 v2 x r) :
    Calls Tryz.prog 6 #[.agg (cvals c (.slice a c.cells.length p) (.slice b c.words.length q)),.agg (hvals h)] w fun r w'=>StepN w w' (fin6 x) r:=by
  obtain ⟨n1,n2⟩:=chan_len hc
  have l1:c.cells.length≤maxLen:=by unfold maxLen;omega
  have l2:c.words.length≤maxLen:=by unfold maxLen;omega
  have m1:c.cells.length≤1099511627776:=by omega
  have m2:c.words.length≤1099511627776:=by omega
  have H1:=Lib.hid h1
  have H2:=Lib.hid h2
  have Z1:=Lib.hid z1
  have Z2:=Lib.hid z2
  have hk1:(h.code != 1)=false:=by simp [hk]
  have hk0:(0:Int)≤(k:Int):=by omega
  have hk8:(k:Int)<9:=by omega
  have hk7:¬ (9:Int)≤(k:Int):=by omega
  clear h1 h2 z1 z2 n1 n2 hk
  obtain ⟨X,hXe⟩:∃ X,X=fin6 x:=⟨_,rfl⟩
  rw [← hXe]
  have T:=Lib.hid fun w=>touches_any w
  have HFF:=Lib.hid HF
  clear HF
  go_enter Tryz.func6,Tryz.ntmps6
  go_wp2_with fail;refine bHit w (by exact zB) fun bb=>?_;refine (iChanOk_any c a b p q _ ((H1.out.below bb).more bb.size) ((H2.out.below bb).more bb.size) l1 l2).mono ?_;rintro _ w1 ⟨rfl,hbw1⟩;have hCw1:Below w.heap.size w w1:=bT bb hbw1;have hsw1:=hbw1.size;(try simp at hsw1);have zz:=q4 hbw1 (b:=w.heap.size);(try simp [go_sem] at zz);(try clear z_wppp x_wppp f_wppp l_wppp);(try clear z_wpp x_wpp f_wpp l_wpp);(try clear z_wp x_wp f_wp l_wp);(try clear z_w x_w f_w l_w);obtain ⟨z_wppp,z_wpp,z_wp,z_w⟩:=zz;obtain ⟨x_wppp,f_wppp,l_wppp⟩:=bO z_wppp;obtain ⟨x_wpp,f_wpp,l_wpp⟩:=bO z_wpp;obtain ⟨x_wp,f_wp,l_wp⟩:=bO z_wp;obtain ⟨x_w,f_w,l_w⟩:=bO z_w;clear hbw1 bb
  rw [hc]
  go_wp2_with fail;refine bHit w (by exact zB) fun bb=>?_;refine (handOk_any h _).mono ?_;rintro _ w2 ⟨rfl,hbw2⟩;have hCw2:Below w.heap.size w w2:=bT bb hbw2;have hsw2:=hbw2.size;(try simp at hsw2);have zz:=q4 hbw2 (b:=w.heap.size);(first|simp [go_sem,z_wppp,z_wpp,z_wp,z_w,l_w,l_wp,l_wpp,l_wppp] at zz|simp [go_sem] at zz|skip);(try clear z_wppp x_wppp f_wppp l_wppp);(try clear z_wpp x_wpp f_wpp l_wpp);(try clear z_wp x_wp f_wp l_wp);(try clear z_w x_w f_w l_w);obtain ⟨z_wppp,z_wpp,z_wp,z_w⟩:=zz;obtain ⟨x_wppp,f_wppp,l_wppp⟩:=bO z_wppp;obtain ⟨x_wpp,f_wpp,l_wpp⟩:=bO z_wpp;obtain ⟨x_wp,f_wp,l_wp⟩:=bO z_wp;obtain ⟨x_w,f_w,l_w⟩:=bO z_w;clear hbw2 bb
  rw [hh]
  go_wp2_with fail;refine bHit w (by exact zB) fun bb=>?_;refine (T.out _).mono ?_;rintro _ w3 ⟨rfl,hbw3⟩;have hCw3:Below w.heap.size w w3:=bT bb hbw3;have hsw3:=hbw3.size;(try simp at hsw3);have zz:=q4 hbw3 (b:=w.heap.size);(first|simp [go_sem,z_wppp,z_wpp,z_wp,z_w,l_w,l_wp,l_wpp,l_wppp] at zz|simp [go_sem] at zz|skip);(try clear z_wppp x_wppp f_wppp l_wppp);(try clear z_wpp x_wpp f_wpp l_wpp);(try clear z_wp x_wp f_wp l_wp);(try clear z_w x_w f_w l_w);obtain ⟨z_wppp,z_wpp,z_wp,z_w⟩:=zz;obtain ⟨x_wppp,f_wppp,l_wppp⟩:=bO z_wppp;obtain ⟨x_wpp,f_wpp,l_wpp⟩:=bO z_wpp;obtain ⟨x_wp,f_wp,l_wp⟩:=bO z_wp;obtain ⟨x_w,f_w,l_w⟩:=bO z_w;clear hbw3 bb
  unfold tbl
  go_upto_region 4 with fail
  generalize hw4:World.alloc w3 _=w4
  have zw3:hp w4 w3.heap.size=some (.cells tbl 45):=by rw [← hw4];simp [go_sem,tbl]
  have z0:hp w4 w.heap.size=some (.cells (cvals c (.slice a c.cells.length p) (.slice b c.words.length q)) 27):=by rw [← hw4];simp [go_sem,z_w,l_w]
  have z1:hp w4 (w.heap.size+1)=some (.cells (hvals h) 31):=by rw [← hw4];simp [go_sem,z_wp,l_wp]
  have z2:hp w4 (w.heap.size+1+1)=some (.cells (cvals Ch.zero (.slice none 0 0) (.slice none 0 0)) 27):=by rw [← hw4];simp [go_sem,z_wpp,l_wpp]
  have z3:hp w4 (w.heap.size+1+1+1)=some (.cells (hvals Ha.zero) 31):=by rw [← hw4];simp [go_sem,z_wppp,l_wppp]
  have hs4:w4.heap.size=w3.heap.size+1:=by rw [← hw4];simp
  have hCw4:Below w.heap.size w w4:=by rw [← hw4];exact zB
  clear hw4 z_w z_wp z_wpp z_wppp x_w x_wp x_wpp x_wppp f_w f_wp f_wpp f_wppp l_w l_wp l_wpp l_wppp
  have hs5:w3.heap.size<w4.heap.size:=by omega
  have hs6:w4.heap.size≤w3.heap.size+1:=by omega
  have hs7:w.heap.size+1+1+1+1≤w3.heap.size:=by omega
  clear hs4
  have z_w3:=zw3
  have z_w:=z0
  have z_wp:=z1
  have z_wpp:=z2
  have z_wppp:=z3
  clear zw3 z0 z1 z2 z3
  obtain ⟨x_w3,f_w3,l_w3⟩:=bO z_w3
  obtain ⟨x_w,f_w,l_w⟩:=bO z_w
  obtain ⟨x_wp,f_wp,l_wp⟩:=bO z_wp
  obtain ⟨x_wpp,f_wpp,l_wpp⟩:=bO z_wpp
  obtain ⟨x_wppp,f_wppp,l_wppp⟩:=bO z_wppp
  have hq:=(x_w3 k).trans hfun
  clear x_w3
  go_upto_region 6 with fail
  have hp0:w4.cell? ⟨w.heap.size+1,0,none⟩=some (.int .i64 k):=(x_wp 0).trans (by rw [hv_get0,hpos])
  have sOf:=Lib.hid fun (W:World) (hb:Below w4.heap.size w4 W)=>(show hp W w.heap.size=some (.cells (cvals c (.slice a c.cells.length p) (.slice b c.words.length q)) 27)∧hp W (w.heap.size+1)=some (.cells (hvals h) 31)∧W.cell? ⟨w.heap.size+1,0,none⟩=some (.int .i64 k)∧W.cell? ⟨w3.heap.size,k,none⟩=some (.func (.func F) #[] #[]) from ⟨(hpB hb l_w).trans z_w,(hpB hb l_wp).trans z_wp,(hb.cell (p:=⟨w.heap.size+1,0,none⟩) l_wp).trans hp0,(hb.cell (p:=⟨w3.heap.size,k,none⟩) l_w3).trans hq⟩)
  have eOf:=Lib.hid fun (W:World) (hb:Below w4.heap.size w4 W)=>(show hp W (w.heap.size+1+1)=some (.cells (cvals Ch.zero (.slice none 0 0) (.slice none 0 0)) 27)∧hp W (w.heap.size+1+1+1)=some (.cells (hvals Ha.zero) 31)∧Below w.heap.size w W from ⟨(hpB hb l_wpp).trans z_wpp,(hpB hb l_wppp).trans z_wppp,bT hCw4 hb⟩)
  have hR4:=Below.refl w4.heap.size w4
  have hs8:w.heap.size+1+1+1+1≤w4.heap.size:=by omega
  replace H1:=Lib.hid ((H1.out.below hCw4).more hCw4.size)
  replace H2:=Lib.hid ((H2.out.below hCw4).more hCw4.size)
  clear x_w f_w l_w x_wp f_wp l_wp x_wpp f_wpp l_wpp x_wppp f_wppp l_wppp z_w z_wp z_wpp z_wppp z_w3 f_w3 l_w3 hq hp0 hs5 hs6 hs7 hpos hk0 hk8 hk7 hk9 hfun hk1 hc hh l1 l2 T
  go_cut [8,9,10] (fun s8 s9 s10 wx=>∃ (gc gh:Nat) (ya yb:Option Addr) (yp yq:Nat),s8=.pointer (some ⟨gc,0,none⟩)∧s9=.pointer (some ⟨gh,0,none⟩)∧s10=.bool x.2.2∧hp wx gc=some (.cells (cvals x.1 (.slice ya x.1.cells.length yp) (.slice yb x.1.words.length yq)) 27)∧hp wx gh=some (.cells (hvals x.2.1) 31)∧OCells wx (w.heap.size+1+1+1+1) (.slice ya x.1.cells.length yp) x.1.cells∧OInts wx (w.heap.size+1+1+1+1) (.slice yb x.1.words.length yq) x.1.words∧Below w4.heap.size w4 wx∧w4.heap.size≤gc∧w4.heap.size≤gh)
  case first =>
    refine wp_region_held_drew (S:=fun w'=>hp w' w.heap.size=some (.cells (cvals c (.slice a c.cells.length p) (.slice b c.words.length q)) 27)∧hp w' (w.heap.size+1)=some (.cells (hvals h) 31)∧w'.cell? ⟨w.heap.size+1,0,none⟩=some (.int .i64 k)∧w'.cell? ⟨w3.heap.size,k,none⟩=some (.func (.func F) #[] #[])) (by kernel_rfl) (sOf.out _ (by exact zB)) (fun hS0=>?_)
    refine wpAnyH_take (i:=0) (oi:=⟨some 45,_,_,_,_,_⟩) (v:=?_) rfl (by kernel_rfl) (by kernel_rfl) (by kernel_rfl) (fun _ _ _ h=>h) (Or.inl ⟨by rfl,?_⟩) (by assumption) ?_;rotate_left;(focus (intro w' hSw;(try dsimp only at hSw);go_simp;(try with_reducible rfl)));(try rotate_left);(try simp only [Act.put,List.setIfInBounds_toArray,List.set_cons_zero,List.set_cons_succ])
    refine wpAnyH_take (i:=1) (oi:=⟨some 46,_,_,_,_,_⟩) (v:=?_) rfl (by kernel_rfl) (by kernel_rfl) (by kernel_rfl) (fun _ _ _ h=>h) (Or.inl ⟨by rfl,?_⟩) (by assumption) ?_;rotate_left;(focus (intro w' hSw;(try dsimp only at hSw);go_simp;(try with_reducible rfl)));(try rotate_left);(try simp only [Act.put,List.setIfInBounds_toArray,List.set_cons_zero,List.set_cons_succ])
    refine wpAnyH_take (i:=2) (oi:=⟨some 47,_,_,_,_,_⟩) (v:=?_) rfl (by kernel_rfl) (by kernel_rfl) (by kernel_rfl) (fun _ _ _ h=>h) (Or.inl ⟨by rfl,?_⟩) (by assumption) ?_;rotate_left;(focus (intro w' hSw;(try dsimp only at hSw);go_simp;(try with_reducible rfl)));(try rotate_left);(try simp only [Act.put,List.setIfInBounds_toArray,List.set_cons_zero,List.set_cons_succ])
    refine wpAnyH_take (i:=3) (oi:=⟨some 48,_,_,_,_,_⟩) (v:=?_) rfl (by kernel_rfl) (by kernel_rfl) (by kernel_rfl) (fun _ _ _ h=>h) (Or.inl ⟨by rfl,?_⟩) (by assumption) ?_;rotate_left;(focus (intro w' hSw;(try dsimp only at hSw);go_simp;(try with_reducible rfl)));(try rotate_left);(try simp only [Act.put,List.setIfInBounds_toArray,List.set_cons_zero,List.set_cons_succ])
    refine wpAnyH_take (i:=4) (oi:=⟨some 49,_,_,_,_,_⟩) (v:=?_) rfl (by kernel_rfl) (by kernel_rfl) (by kernel_rfl) (fun _ _ _ h=>h) (Or.inl ⟨by rfl,?_⟩) (by assumption) ?_;rotate_left;(focus (intro w' hSw;(try dsimp only at hSw);go_simp;(try with_reducible rfl)));(try rotate_left);(try simp only [Act.put,List.setIfInBounds_toArray,List.set_cons_zero,List.set_cons_succ])
    refine wpAnyH_take (i:=6) (oi:=⟨some 51,_,_,_,_,_⟩) (v:=?_) rfl (by kernel_rfl) (by kernel_rfl) (by kernel_rfl) (fun _ _ _ h=>h) (Or.inl ⟨by rfl,?_⟩) (by assumption) ?_;rotate_left;(focus (intro w' hSw;(try dsimp only at hSw);go_simp;(try with_reducible rfl)));(try rotate_left);(try simp only [Act.put,List.setIfInBounds_toArray,List.set_cons_zero,List.set_cons_succ])
    refine wpAnyH_ready (rs:=[5,12,13]) (by kernel_rfl) (by simp) ?_
    refine AllReadyH.cons (o:=⟨some 50,_,_,_,_,_⟩) rfl (fun K hK=>?_) (AllReadyH.cons (o:=⟨some 8,_,_,_,_,_⟩) rfl (fun K hK=>?_) (AllReadyH.cons (o:=⟨some 9,_,_,_,_,_⟩) rfl (fun K hK=>?_) AllReadyH.nil))
    · skip
      go_simp
      go_at_call 16
      refine (iCopied_any c a b p q _ ((H1.out.below (by exact zB)).more (by (try simp) <;> omega)) Z1.out ((H2.out.below (by exact zB)).more (by (try simp) <;> omega)) Z2.out m1 m2).mono ?_
      rintro _ w5 ⟨⟨v1,v2,rfl,o1,o2⟩,hb5⟩
      have hX5:Below w4.heap.size w4 w5:=bT (by exact zB) hb5
      have hz5:=hb5.size
      (try simp at hz5)
      (try simp at o1 o2)
      have b1:=fun j (hj:v1.ownBlock=some j)=>o1.lt j hj
      have b2:=fun j (hj:v2.ownBlock=some j)=>o2.lt j hj
      obtain ⟨va,vp,rfl,_⟩:=o1.seg
      obtain ⟨vb,vq,rfl,_⟩:=o2.seg
      have q1:=own_lo (lo':=w.heap.size+1+1+1+1) o1 (by omega)
      have q2:=own_lo (lo':=w.heap.size+1+1+1+1) o2 (by omega)
      clear hb5
      refine hK.out _ _ (sOf.out _ hX5) (fun hS5=>?_)
      clear hK
      (try simp only [Act.put,List.setIfInBounds_toArray,List.set_cons_zero,List.set_cons_succ])
      refine wpAnyH_ready (rs:=[7,12,13]) (by kernel_rfl) (by simp) ?_
      refine AllReadyH.cons (o:=⟨some 52,_,_,_,_,_⟩) rfl (fun K hK=>?_) (AllReadyH.cons (o:=⟨some 8,_,_,_,_,_⟩) rfl (fun K hK=>?_) (AllReadyH.cons (o:=⟨some 9,_,_,_,_,_⟩) rfl (fun K hK=>?_) AllReadyH.nil))
      · skip
        go_simp
        refine (HFF.out _ _ (w.heap.size+1+1+1+1) _ (by exact zO q1 o1) (by exact zO q2 o2) (by (try simp) <;> omega)).mono ?_
        rintro _ w6 ⟨⟨y1,y2,rfl,oY1,oY2,fY1,fY2⟩,hO⟩
        have hz6:=hO.2.2.2.1
        (try simp at hz6)
        have hX6:Below w4.heap.size w4 w6:=bOnl (by exact zB) hO (fun j hj=>by have:=(b1 j hj).1;omega) (fun j hj=>by have:=(b2 j hj).1;omega)
        obtain ⟨ya,yp,rfl,_⟩:=oY1.seg
        obtain ⟨yb,yq,rfl,_⟩:=oY2.seg
        clear b1 b2 o1 o2 q1 q2 fY1 fY2 hO
        refine hK.out _ _ (sOf.out _ hX6) (fun hS7=>?_)
        clear hK hX5
        (try simp only [Act.put,List.setIfInBounds_toArray,List.set_cons_zero,List.set_cons_succ])
        refine wpAnyH_take (i:=8) (oi:=⟨some 44,_,_,_,_,_⟩) (v:=?_) rfl (by kernel_rfl) (by kernel_rfl) (by kernel_rfl) (fun _ _ _ h=>h) (Or.inl ⟨by rfl,?_⟩) (by assumption) ?_;rotate_left;(focus (intro w' hSw;(try dsimp only at hSw);go_simp;(try with_reducible rfl)));(try rotate_left);(try simp only [Act.put,List.setIfInBounds_toArray,List.set_cons_zero,List.set_cons_succ])
        refine wpAnyH_take (i:=9) (oi:=⟨some 53,_,_,_,_,_⟩) (v:=?_) rfl (by kernel_rfl) (by kernel_rfl) (by kernel_rfl) (fun _ _ _ h=>h) (Or.inl ⟨by rfl,?_⟩) (by assumption) ?_;rotate_left;(focus (intro w' hSw;(try dsimp only at hSw);go_simp;(try with_reducible rfl)));(try rotate_left);(try simp only [Act.put,List.setIfInBounds_toArray,List.set_cons_zero,List.set_cons_succ])
        refine wpAnyH_take (i:=10) (oi:=⟨some 54,_,_,_,_,_⟩) (v:=?_) rfl (by kernel_rfl) (by kernel_rfl) (by kernel_rfl) (fun _ _ _ h=>h) (Or.inl ⟨by rfl,?_⟩) (by assumption) ?_;rotate_left;(focus (intro w' hSw;(try dsimp only at hSw);go_simp;(try with_reducible rfl)));(try rotate_left);(try simp only [Act.put,List.setIfInBounds_toArray,List.set_cons_zero,List.set_cons_succ])
        refine wpAnyH_take (i:=11) (oi:=⟨some 55,_,_,_,_,_⟩) (v:=?_) rfl (by kernel_rfl) (by kernel_rfl) (by kernel_rfl) (fun _ _ _ h=>h) (Or.inl ⟨by rfl,?_⟩) (by assumption) ?_;rotate_left;(focus (intro w' hSw;(try dsimp only at hSw);go_simp;(try with_reducible rfl)));(try rotate_left);(try simp only [Act.put,List.setIfInBounds_toArray,List.set_cons_zero,List.set_cons_succ])
        refine wpAnyH_ready (rs:=[12,13]) (by kernel_rfl) (by simp) ?_
        refine AllReadyH.cons (o:=⟨some 8,_,_,_,_,_⟩) rfl (fun K hK=>?_) (AllReadyH.cons (o:=⟨some 9,_,_,_,_,_⟩) rfl (fun K hK=>?_) AllReadyH.nil)
        · skip
          go_simp
          refine hK.out _ _ (sOf.out _ (by exact zB)) (fun hS12=>?_)
          clear hK
          (try simp only [Act.put,List.setIfInBounds_toArray,List.set_cons_zero,List.set_cons_succ])
          refine wpAnyH_ready (rs:=[13]) (by kernel_rfl) (by simp) ?_
          refine AllReadyH.cons (o:=⟨some 9,_,_,_,_,_⟩) rfl (fun K hK=>?_) AllReadyH.nil
          · skip
            go_simp
            refine hK.out _ _ (sOf.out _ (by exact zB)) (fun hS13=>?_)
            clear hK
            (try simp only [Act.put,List.setIfInBounds_toArray,List.set_cons_zero,List.set_cons_succ])
            refine wpAnyH_ready (rs:=[14]) (by kernel_rfl) (by simp) ?_
            refine AllReadyH.cons (o:=⟨none,_,_,_,_,_⟩) rfl (fun K hK=>?_) AllReadyH.nil
            go_simp
            refine hK.out _ _ (sOf.out _ (by exact zB)) (fun hS14=>?_)
            clear hK
            (try simp only [Act.put,List.setIfInBounds_toArray,List.set_cons_zero,List.set_cons_succ])
            refine wpAnyH_ready (rs:=[15]) (by kernel_rfl) (by simp) ?_
            refine AllReadyH.cons (o:=⟨none,_,_,_,_,_⟩) rfl (fun K hK=>?_) AllReadyH.nil
            go_simp
            refine hK.out _ _ (sOf.out _ (by exact zB)) (fun hS15=>?_)
            clear hK
            (try simp only [Act.put,List.setIfInBounds_toArray,List.set_cons_zero,List.set_cons_succ])
            refine wpAnyH_take (i:=16) (oi:=⟨some 10,_,_,_,_,_⟩) (v:=?_) rfl (by kernel_rfl) (by kernel_rfl) (by kernel_rfl) (fun _ _ _ h=>h) (Or.inl ⟨by rfl,?_⟩) (by assumption) ?_;rotate_left;(focus (intro w' hSw;(try dsimp only at hSw);go_simp;(try with_reducible rfl)));(try rotate_left);(try simp only [Act.put,List.setIfInBounds_toArray,List.set_cons_zero,List.set_cons_succ])
            refine wpAnyH_done (by kernel_rfl) ?_ _
            go_wp2_with fail
            go_meet
            refine ⟨_,_,ya,yb,yp,yq,rfl,rfl,rfl,?_,?_,?_,?_,by exact zB,by (try simp) <;> omega,by (try simp) <;> omega⟩
            · simp [go_sem, *] <;> rfl
            · simp [go_sem, *] <;> rfl
            · (repeat first|with_reducible exact oY1|with_reducible refine oAl ?_ _|with_reducible refine oDr ?_|((with_reducible first|refine own_store ?_ ?_ _|refine own_box ?_ ?_);rotate_left;focus first|(refine own_ne oY1 ?_;(try dsimp only);omega)|(refine own_ne' oY1 ?_;(try dsimp only);omega)|exact (by assumption)))
            · (repeat first|with_reducible exact oY2|with_reducible refine oAl ?_ _|with_reducible refine oDr ?_|((with_reducible first|refine own_store ?_ ?_ _|refine own_box ?_ ?_);rotate_left;focus first|(refine own_ne oY2 ?_;(try dsimp only);omega)|(refine own_ne' oY2 ?_;(try dsimp only);omega)|exact (by assumption)))
        · skip
          go_simp
          refine hK.out _ _ (sOf.out _ (by exact zB)) (fun hS13=>?_)
          clear hK
          (try simp only [Act.put,List.setIfInBounds_toArray,List.set_cons_zero,List.set_cons_succ])
          refine wpAnyH_ready (rs:=[12]) (by kernel_rfl) (by simp) ?_
          refine AllReadyH.cons (o:=⟨some 8,_,_,_,_,_⟩) rfl (fun K hK=>?_) AllReadyH.nil
          · skip
            go_simp
            refine hK.out _ _ (sOf.out _ (by exact zB)) (fun hS12=>?_)
            clear hK
            (try simp only [Act.put,List.setIfInBounds_toArray,List.set_cons_zero,List.set_cons_succ])
            refine wpAnyH_ready (rs:=[14]) (by kernel_rfl) (by simp) ?_
            refine AllReadyH.cons (o:=⟨none,_,_,_,_,_⟩) rfl (fun K hK=>?_) AllReadyH.nil
            go_simp
            refine hK.out _ _ (sOf.out _ (by exact zB)) (fun hS14=>?_)
            clear hK
            (try simp only [Act.put,List.setIfInBounds_toArray,List.set_cons_zero,List.set_cons_succ])
            refine wpAnyH_ready (rs:=[15]) (by kernel_rfl) (by simp) ?_
            refine AllReadyH.cons (o:=⟨none,_,_,_,_,_⟩) rfl (fun K hK=>?_) AllReadyH.nil
            go_simp
            refine hK.out _ _ (sOf.out _ (by exact zB)) (fun hS15=>?_)
            clear hK
            (try simp only [Act.put,List.setIfInBounds_toArray,List.set_cons_zero,List.set_cons_succ])
            refine wpAnyH_take (i:=16) (oi:=⟨some 10,_,_,_,_,_⟩) (v:=?_) rfl (by kernel_rfl) (by kernel_rfl) (by kernel_rfl) (fun _ _ _ h=>h) (Or.inl ⟨by rfl,?_⟩) (by assumption) ?_;rotate_left;(focus (intro w' hSw;(try dsimp only at hSw);go_simp;(try with_reducible rfl)));(try rotate_left);(try simp only [Act.put,List.setIfInBounds_toArray,List.set_cons_zero,List.set_cons_succ])
            refine wpAnyH_done (by kernel_rfl) ?_ _
            go_wp2_with fail
            go_meet
            refine ⟨_,_,ya,yb,yp,yq,rfl,rfl,rfl,?_,?_,?_,?_,by exact zB,by (try simp) <;> omega,by (try simp) <;> omega⟩
            · simp [go_sem, *] <;> rfl
            · simp [go_sem, *] <;> rfl
            · (repeat first|with_reducible exact oY1|with_reducible refine oAl ?_ _|with_reducible refine oDr ?_|((with_reducible first|refine own_store ?_ ?_ _|refine own_box ?_ ?_);rotate_left;focus first|(refine own_ne oY1 ?_;(try dsimp only);omega)|(refine own_ne' oY1 ?_;(try dsimp only);omega)|exact (by assumption)))
            · (repeat first|with_reducible exact oY2|with_reducible refine oAl ?_ _|with_reducible refine oDr ?_|((with_reducible first|refine own_store ?_ ?_ _|refine own_box ?_ ?_);rotate_left;focus first|(refine own_ne oY2 ?_;(try dsimp only);omega)|(refine own_ne' oY2 ?_;(try dsimp only);omega)|exact (by assumption)))
      · skip
        go_simp
        refine hK.out _ _ (sOf.out _ (by exact zB)) (fun hS12=>?_)
        clear hK
        (try simp only [Act.put,List.setIfInBounds_toArray,List.set_cons_zero,List.set_cons_succ])
        refine wpAnyH_ready (rs:=[7,13]) (by kernel_rfl) (by simp) ?_
        refine AllReadyH.cons (o:=⟨some 52,_,_,_,_,_⟩) rfl (fun K hK=>?_) (AllReadyH.cons (o:=⟨some 9,_,_,_,_,_⟩) rfl (fun K hK=>?_) AllReadyH.nil)
        · skip
          go_simp
          refine (HFF.out _ _ (w.heap.size+1+1+1+1) _ (by exact zO q1 o1) (by exact zO q2 o2) (by (try simp) <;> omega)).mono ?_
          rintro _ w6 ⟨⟨y1,y2,rfl,oY1,oY2,fY1,fY2⟩,hO⟩
          have hz6:=hO.2.2.2.1
          (try simp at hz6)
          have hX6:Below w4.heap.size w4 w6:=bOnl (by exact zB) hO (fun j hj=>by have:=(b1 j hj).1;omega) (fun j hj=>by have:=(b2 j hj).1;omega)
          have zz:=onlHp hO (i:=w5.heap.size) (by (try simp) <;> omega) (fun e=>by have:=b1 _ e.symm;omega) (fun e=>by have:=b2 _ e.symm;omega)
          simp [go_sem] at zz
          (try clear t12 n12)
          have t12:=zz
          clear zz
          have n12:=(bO t12).2.2
          have ya12:y1.ownBlock≠some (w5.heap.size):=(fun e=>by rcases fY1 _ e with g1|g1;(have:=b1 _ g1;omega);((try simp at g1);omega))
          have yb12:y2.ownBlock≠some (w5.heap.size):=(fun e=>by rcases fY2 _ e with g1|g1;(have:=b2 _ g1;omega);((try simp at g1);omega))
          obtain ⟨ya,yp,rfl,_⟩:=oY1.seg
          obtain ⟨yb,yq,rfl,_⟩:=oY2.seg
          clear b1 b2 o1 o2 q1 q2 fY1 fY2 hO
          refine hK.out _ _ (sOf.out _ hX6) (fun hS7=>?_)
          clear hK hX5
          (try simp only [Act.put,List.setIfInBounds_toArray,List.set_cons_zero,List.set_cons_succ])
          refine wpAnyH_take (i:=8) (oi:=⟨some 44,_,_,_,_,_⟩) (v:=?_) rfl (by kernel_rfl) (by kernel_rfl) (by kernel_rfl) (fun _ _ _ h=>h) (Or.inl ⟨by rfl,?_⟩) (by assumption) ?_;rotate_left;(focus (intro w' hSw;(try dsimp only at hSw);go_simp;(try with_reducible rfl)));(try rotate_left);(try simp only [Act.put,List.setIfInBounds_toArray,List.set_cons_zero,List.set_cons_succ])
          refine wpAnyH_take (i:=9) (oi:=⟨some 53,_,_,_,_,_⟩) (v:=?_) rfl (by kernel_rfl) (by kernel_rfl) (by kernel_rfl) (fun _ _ _ h=>h) (Or.inl ⟨by rfl,?_⟩) (by assumption) ?_;rotate_left;(focus (intro w' hSw;(try dsimp only at hSw);go_simp;(try with_reducible rfl)));(try rotate_left);(try simp only [Act.put,List.setIfInBounds_toArray,List.set_cons_zero,List.set_cons_succ])
          refine wpAnyH_take (i:=10) (oi:=⟨some 54,_,_,_,_,_⟩) (v:=?_) rfl (by kernel_rfl) (by kernel_rfl) (by kernel_rfl) (fun _ _ _ h=>h) (Or.inl ⟨by rfl,?_⟩) (by assumption) ?_;rotate_left;(focus (intro w' hSw;(try dsimp only at hSw);go_simp;(try with_reducible rfl)));(try rotate_left);(try simp only [Act.put,List.setIfInBounds_toArray,List.set_cons_zero,List.set_cons_succ])
          refine wpAnyH_take (i:=11) (oi:=⟨some 55,_,_,_,_,_⟩) (v:=?_) rfl (by kernel_rfl) (by kernel_rfl) (by kernel_rfl) (fun _ _ _ h=>h) (Or.inl ⟨by rfl,?_⟩) (by assumption) ?_;rotate_left;(focus (intro w' hSw;(try dsimp only at hSw);go_simp;(try with_reducible rfl)));(try rotate_left);(try simp only [Act.put,List.setIfInBounds_toArray,List.set_cons_zero,List.set_cons_succ])
          refine wpAnyH_ready (rs:=[13]) (by kernel_rfl) (by simp) ?_
          refine AllReadyH.cons (o:=⟨some 9,_,_,_,_,_⟩) rfl (fun K hK=>?_) AllReadyH.nil
          · skip
            go_simp
            refine hK.out _ _ (sOf.out _ (by exact zB)) (fun hS13=>?_)
            clear hK
            (try simp only [Act.put,List.setIfInBounds_toArray,List.set_cons_zero,List.set_cons_succ])
            refine wpAnyH_ready (rs:=[14]) (by kernel_rfl) (by simp) ?_
            refine AllReadyH.cons (o:=⟨none,_,_,_,_,_⟩) rfl (fun K hK=>?_) AllReadyH.nil
            go_simp
            refine hK.out _ _ (sOf.out _ (by exact zB)) (fun hS14=>?_)
            clear hK
            (try simp only [Act.put,List.setIfInBounds_toArray,List.set_cons_zero,List.set_cons_succ])
            refine wpAnyH_ready (rs:=[15]) (by kernel_rfl) (by simp) ?_
            refine AllReadyH.cons (o:=⟨none,_,_,_,_,_⟩) rfl (fun K hK=>?_) AllReadyH.nil
            go_simp
            refine hK.out _ _ (sOf.out _ (by exact zB)) (fun hS15=>?_)
            clear hK
            (try simp only [Act.put,List.setIfInBounds_toArray,List.set_cons_zero,List.set_cons_succ])
            refine wpAnyH_take (i:=16) (oi:=⟨some 10,_,_,_,_,_⟩) (v:=?_) rfl (by kernel_rfl) (by kernel_rfl) (by kernel_rfl) (fun _ _ _ h=>h) (Or.inl ⟨by rfl,?_⟩) (by assumption) ?_;rotate_left;(focus (intro w' hSw;(try dsimp only at hSw);go_simp;(try with_reducible rfl)));(try rotate_left);(try simp only [Act.put,List.setIfInBounds_toArray,List.set_cons_zero,List.set_cons_succ])
            refine wpAnyH_done (by kernel_rfl) ?_ _
            go_wp2_with fail
            go_meet
            refine ⟨_,_,ya,yb,yp,yq,rfl,rfl,rfl,?_,?_,?_,?_,by exact zB,by (try simp) <;> omega,by (try simp) <;> omega⟩
            · simp [go_sem, *] <;> rfl
            · simp [go_sem, *] <;> rfl
            · (repeat first|with_reducible exact oY1|with_reducible refine oAl ?_ _|with_reducible refine oDr ?_|((with_reducible first|refine own_store ?_ ?_ _|refine own_box ?_ ?_);rotate_left;focus first|(refine own_ne oY1 ?_;(try dsimp only);omega)|(refine own_ne' oY1 ?_;(try dsimp only);omega)|exact (by assumption)))
            · (repeat first|with_reducible exact oY2|with_reducible refine oAl ?_ _|with_reducible refine oDr ?_|((with_reducible first|refine own_store ?_ ?_ _|refine own_box ?_ ?_);rotate_left;focus first|(refine own_ne oY2 ?_;(try dsimp only);omega)|(refine own_ne' oY2 ?_;(try dsimp only);omega)|exact (by assumption)))
        · skip
          go_simp
          refine hK.out _ _ (sOf.out _ (by exact zB)) (fun hS13=>?_)
          clear hK
          (try simp only [Act.put,List.setIfInBounds_toArray,List.set_cons_zero,List.set_cons_succ])
          refine wpAnyH_ready (rs:=[7]) (by kernel_rfl) (by simp) ?_
          refine AllReadyH.cons (o:=⟨some 52,_,_,_,_,_⟩) rfl (fun K hK=>?_) AllReadyH.nil
          · skip
            go_simp
            refine (HFF.out _ _ (w.heap.size+1+1+1+1) _ (by exact zO q1 o1) (by exact zO q2 o2) (by (try simp) <;> omega)).mono ?_
            rintro _ w6 ⟨⟨y1,y2,rfl,oY1,oY2,fY1,fY2⟩,hO⟩
            have hz6:=hO.2.2.2.1
            (try simp at hz6)
            have hX6:Below w4.heap.size w4 w6:=bOnl (by exact zB) hO (fun j hj=>by have:=(b1 j hj).1;omega) (fun j hj=>by have:=(b2 j hj).1;omega)
            have zz:=onlHp hO (i:=w5.heap.size) (by (try simp) <;> omega) (fun e=>by have:=b1 _ e.symm;omega) (fun e=>by have:=b2 _ e.symm;omega)
            simp [go_sem] at zz
            (try clear t12 n12)
            have t12:=zz
            clear zz
            have n12:=(bO t12).2.2
            have ya12:y1.ownBlock≠some (w5.heap.size):=(fun e=>by rcases fY1 _ e with g1|g1;(have:=b1 _ g1;omega);((try simp at g1);omega))
            have yb12:y2.ownBlock≠some (w5.heap.size):=(fun e=>by rcases fY2 _ e with g1|g1;(have:=b2 _ g1;omega);((try simp at g1);omega))
            have zz:=onlHp hO (i:=w5.heap.size+1) (by (try simp) <;> omega) (fun e=>by have:=b1 _ e.symm;omega) (fun e=>by have:=b2 _ e.symm;omega)
            simp [go_sem] at zz
            (try clear t13 n13)
            have t13:=zz
            clear zz
            have n13:=(bO t13).2.2
            have ya13:y1.ownBlock≠some (w5.heap.size+1):=(fun e=>by rcases fY1 _ e with g1|g1;(have:=b1 _ g1;omega);((try simp at g1);omega))
            have yb13:y2.ownBlock≠some (w5.heap.size+1):=(fun e=>by rcases fY2 _ e with g1|g1;(have:=b2 _ g1;omega);((try simp at g1);omega))
            obtain ⟨ya,yp,rfl,_⟩:=oY1.seg
            obtain ⟨yb,yq,rfl,_⟩:=oY2.seg
            clear b1 b2 o1 o2 q1 q2 fY1 fY2 hO
            refine hK.out _ _ (sOf.out _ hX6) (fun hS7=>?_)
            clear hK hX5
            (try simp only [Act.put,List.setIfInBounds_toArray,List.set_cons_zero,List.set_cons_succ])
            refine wpAnyH_take (i:=8) (oi:=⟨some 44,_,_,_,_,_⟩) (v:=?_) rfl (by kernel_rfl) (by kernel_rfl) (by kernel_rfl) (fun _ _ _ h=>h) (Or.inl ⟨by rfl,?_⟩) (by assumption) ?_;rotate_left;(focus (intro w' hSw;(try dsimp only at hSw);go_simp;(try with_reducible rfl)));(try rotate_left);(try simp only [Act.put,List.setIfInBounds_toArray,List.set_cons_zero,List.set_cons_succ])
            refine wpAnyH_take (i:=9) (oi:=⟨some 53,_,_,_,_,_⟩) (v:=?_) rfl (by kernel_rfl) (by kernel_rfl) (by kernel_rfl) (fun _ _ _ h=>h) (Or.inl ⟨by rfl,?_⟩) (by assumption) ?_;rotate_left;(focus (intro w' hSw;(try dsimp only at hSw);go_simp;(try with_reducible rfl)));(try rotate_left);(try simp only [Act.put,List.setIfInBounds_toArray,List.set_cons_zero,List.set_cons_succ])
            refine wpAnyH_take (i:=10) (oi:=⟨some 54,_,_,_,_,_⟩) (v:=?_) rfl (by kernel_rfl) (by kernel_rfl) (by kernel_rfl) (fun _ _ _ h=>h) (Or.inl ⟨by rfl,?_⟩) (by assumption) ?_;rotate_left;(focus (intro w' hSw;(try dsimp only at hSw);go_simp;(try with_reducible rfl)));(try rotate_left);(try simp only [Act.put,List.setIfInBounds_toArray,List.set_cons_zero,List.set_cons_succ])
            refine wpAnyH_take (i:=11) (oi:=⟨some 55,_,_,_,_,_⟩) (v:=?_) rfl (by kernel_rfl) (by kernel_rfl) (by kernel_rfl) (fun _ _ _ h=>h) (Or.inl ⟨by rfl,?_⟩) (by assumption) ?_;rotate_left;(focus (intro w' hSw;(try dsimp only at hSw);go_simp;(try with_reducible rfl)));(try rotate_left);(try simp only [Act.put,List.setIfInBounds_toArray,List.set_cons_zero,List.set_cons_succ])
            refine wpAnyH_ready (rs:=[14]) (by kernel_rfl) (by simp) ?_
            refine AllReadyH.cons (o:=⟨none,_,_,_,_,_⟩) rfl (fun K hK=>?_) AllReadyH.nil
            go_simp
            refine hK.out _ _ (sOf.out _ (by exact zB)) (fun hS14=>?_)
            clear hK
            (try simp only [Act.put,List.setIfInBounds_toArray,List.set_cons_zero,List.set_cons_succ])
            refine wpAnyH_ready (rs:=[15]) (by kernel_rfl) (by simp) ?_
            refine AllReadyH.cons (o:=⟨none,_,_,_,_,_⟩) rfl (fun K hK=>?_) AllReadyH.nil
            go_simp
            refine hK.out _ _ (sOf.out _ (by exact zB)) (fun hS15=>?_)
            clear hK
            (try simp only [Act.put,List.setIfInBounds_toArray,List.set_cons_zero,List.set_cons_succ])
            refine wpAnyH_take (i:=16) (oi:=⟨some 10,_,_,_,_,_⟩) (v:=?_) rfl (by kernel_rfl) (by kernel_rfl) (by kernel_rfl) (fun _ _ _ h=>h) (Or.inl ⟨by rfl,?_⟩) (by assumption) ?_;rotate_left;(focus (intro w' hSw;(try dsimp only at hSw);go_simp;(try with_reducible rfl)));(try rotate_left);(try simp only [Act.put,List.setIfInBounds_toArray,List.set_cons_zero,List.set_cons_succ])
            refine wpAnyH_done (by kernel_rfl) ?_ _
            go_wp2_with fail
            go_meet
            refine ⟨_,_,ya,yb,yp,yq,rfl,rfl,rfl,?_,?_,?_,?_,by exact zB,by (try simp) <;> omega,by (try simp) <;> omega⟩
            · simp [go_sem, *] <;> rfl
            · simp [go_sem, *] <;> rfl
            · (repeat first|with_reducible exact oY1|with_reducible refine oAl ?_ _|with_reducible refine oDr ?_|((with_reducible first|refine own_store ?_ ?_ _|refine own_box ?_ ?_);rotate_left;focus first|(refine own_ne oY1 ?_;(try dsimp only);omega)|(refine own_ne' oY1 ?_;(try dsimp only);omega)|exact (by assumption)))
            · (repeat first|with_reducible exact oY2|with_reducible refine oAl ?_ _|with_reducible refine oDr ?_|((with_reducible first|refine own_store ?_ ?_ _|refine own_box ?_ ?_);rotate_left;focus first|(refine own_ne oY2 ?_;(try dsimp only);omega)|(refine own_ne' oY2 ?_;(try dsimp only);omega)|exact (by assumption)))
      · skip
        go_simp
        refine hK.out _ _ (sOf.out _ (by exact zB)) (fun hS13=>?_)
        clear hK
        (try simp only [Act.put,List.setIfInBounds_toArray,List.set_cons_zero,List.set_cons_succ])
        refine wpAnyH_ready (rs:=[7,12]) (by kernel_rfl) (by simp) ?_
        refine AllReadyH.cons (o:=⟨some 52,_,_,_,_,_⟩) rfl (fun K hK=>?_) (AllReadyH.cons (o:=⟨some 8,_,_,_,_,_⟩) rfl (fun K hK=>?_) AllReadyH.nil)
        · skip
          go_simp
          refine (HFF.out _ _ (w.heap.size+1+1+1+1) _ (by exact zO q1 o1) (by exact zO q2 o2) (by (try simp) <;> omega)).mono ?_
          rintro _ w6 ⟨⟨y1,y2,rfl,oY1,oY2,fY1,fY2⟩,hO⟩
          have hz6:=hO.2.2.2.1
          (try simp at hz6)
          have hX6:Below w4.heap.size w4 w6:=bOnl (by exact zB) hO (fun j hj=>by have:=(b1 j hj).1;omega) (fun j hj=>by have:=(b2 j hj).1;omega)
          have zz:=onlHp hO (i:=w5.heap.size) (by (try simp) <;> omega) (fun e=>by have:=b1 _ e.symm;omega) (fun e=>by have:=b2 _ e.symm;omega)
          simp [go_sem] at zz
          (try clear t13 n13)
          have t13:=zz
          clear zz
          have n13:=(bO t13).2.2
          have ya13:y1.ownBlock≠some (w5.heap.size):=(fun e=>by rcases fY1 _ e with g1|g1;(have:=b1 _ g1;omega);((try simp at g1);omega))
          have yb13:y2.ownBlock≠some (w5.heap.size):=(fun e=>by rcases fY2 _ e with g1|g1;(have:=b2 _ g1;omega);((try simp at g1);omega))
          obtain ⟨ya,yp,rfl,_⟩:=oY1.seg
          obtain ⟨yb,yq,rfl,_⟩:=oY2.seg
          clear b1 b2 o1 o2 q1 q2 fY1 fY2 hO
          refine hK.out _ _ (sOf.out _ hX6) (fun hS7=>?_)
          clear hK hX5
          (try simp only [Act.put,List.setIfInBounds_toArray,List.set_cons_zero,List.set_cons_succ])
          refine wpAnyH_take (i:=8) (oi:=⟨some 44,_,_,_,_,_⟩) (v:=?_) rfl (by kernel_rfl) (by kernel_rfl) (by kernel_rfl) (fun _ _ _ h=>h) (Or.inl ⟨by rfl,?_⟩) (by assumption) ?_;rotate_left;(focus (intro w' hSw;(try dsimp only at hSw);go_simp;(try with_reducible rfl)));(try rotate_left);(try simp only [Act.put,List.setIfInBounds_toArray,List.set_cons_zero,List.set_cons_succ])
          refine wpAnyH_take (i:=9) (oi:=⟨some 53,_,_,_,_,_⟩) (v:=?_) rfl (by kernel_rfl) (by kernel_rfl) (by kernel_rfl) (fun _ _ _ h=>h) (Or.inl ⟨by rfl,?_⟩) (by assumption) ?_;rotate_left;(focus (intro w' hSw;(try dsimp only at hSw);go_simp;(try with_reducible rfl)));(try rotate_left);(try simp only [Act.put,List.setIfInBounds_toArray,List.set_cons_zero,List.set_cons_succ])
          refine wpAnyH_take (i:=10) (oi:=⟨some 54,_,_,_,_,_⟩) (v:=?_) rfl (by kernel_rfl) (by kernel_rfl) (by kernel_rfl) (fun _ _ _ h=>h) (Or.inl ⟨by rfl,?_⟩) (by assumption) ?_;rotate_left;(focus (intro w' hSw;(try dsimp only at hSw);go_simp;(try with_reducible rfl)));(try rotate_left);(try simp only [Act.put,List.setIfInBounds_toArray,List.set_cons_zero,List.set_cons_succ])
          refine wpAnyH_take (i:=11) (oi:=⟨some 55,_,_,_,_,_⟩) (v:=?_) rfl (by kernel_rfl) (by kernel_rfl) (by kernel_rfl) (fun _ _ _ h=>h) (Or.inl ⟨by rfl,?_⟩) (by assumption) ?_;rotate_left;(focus (intro w' hSw;(try dsimp only at hSw);go_simp;(try with_reducible rfl)));(try rotate_left);(try simp only [Act.put,List.setIfInBounds_toArray,List.set_cons_zero,List.set_cons_succ])
          refine wpAnyH_ready (rs:=[12]) (by kernel_rfl) (by simp) ?_
          refine AllReadyH.cons (o:=⟨some 8,_,_,_,_,_⟩) rfl (fun K hK=>?_) AllReadyH.nil
          · skip
            go_simp
            refine hK.out _ _ (sOf.out _ (by exact zB)) (fun hS12=>?_)
            clear hK
            (try simp only [Act.put,List.setIfInBounds_toArray,List.set_cons_zero,List.set_cons_succ])
            refine wpAnyH_ready (rs:=[14]) (by kernel_rfl) (by simp) ?_
            refine AllReadyH.cons (o:=⟨none,_,_,_,_,_⟩) rfl (fun K hK=>?_) AllReadyH.nil
            go_simp
            refine hK.out _ _ (sOf.out _ (by exact zB)) (fun hS14=>?_)
            clear hK
            (try simp only [Act.put,List.setIfInBounds_toArray,List.set_cons_zero,List.set_cons_succ])
            refine wpAnyH_ready (rs:=[15]) (by kernel_rfl) (by simp) ?_
            refine AllReadyH.cons (o:=⟨none,_,_,_,_,_⟩) rfl (fun K hK=>?_) AllReadyH.nil
            go_simp
            refine hK.out _ _ (sOf.out _ (by exact zB)) (fun hS15=>?_)
            clear hK
            (try simp only [Act.put,List.setIfInBounds_toArray,List.set_cons_zero,List.set_cons_succ])
            refine wpAnyH_take (i:=16) (oi:=⟨some 10,_,_,_,_,_⟩) (v:=?_) rfl (by kernel_rfl) (by kernel_rfl) (by kernel_rfl) (fun _ _ _ h=>h) (Or.inl ⟨by rfl,?_⟩) (by assumption) ?_;rotate_left;(focus (intro w' hSw;(try dsimp only at hSw);go_simp;(try with_reducible rfl)));(try rotate_left);(try simp only [Act.put,List.setIfInBounds_toArray,List.set_cons_zero,List.set_cons_succ])
            refine wpAnyH_done (by kernel_rfl) ?_ _
            go_wp2_with fail
            go_meet
            refine ⟨_,_,ya,yb,yp,yq,rfl,rfl,rfl,?_,?_,?_,?_,by exact zB,by (try simp) <;> omega,by (try simp) <;> omega⟩
            · simp [go_sem, *] <;> rfl
            · simp [go_sem, *] <;> rfl
            · (repeat first|with_reducible exact oY1|with_reducible refine oAl ?_ _|with_reducible refine oDr ?_|((with_reducible first|refine own_store ?_ ?_ _|refine own_box ?_ ?_);rotate_left;focus first|(refine own_ne oY1 ?_;(try dsimp only);omega)|(refine own_ne' oY1 ?_;(try dsimp only);omega)|exact (by assumption)))
            · (repeat first|with_reducible exact oY2|with_reducible refine oAl ?_ _|with_reducible refine oDr ?_|((with_reducible first|refine own_store ?_ ?_ _|refine own_box ?_ ?_);rotate_left;focus first|(refine own_ne oY2 ?_;(try dsimp only);omega)|(refine own_ne' oY2 ?_;(try dsimp only);omega)|exact (by assumption)))
        · skip
          go_simp
          refine hK.out _ _ (sOf.out _ (by exact zB)) (fun hS12=>?_)
          clear hK
          (try simp only [Act.put,List.setIfInBounds_toArray,List.set_cons_zero,List.set_cons_succ])
          refine wpAnyH_ready (rs:=[7]) (by kernel_rfl) (by simp) ?_
          refine AllReadyH.cons (o:=⟨some 52,_,_,_,_,_⟩) rfl (fun K hK=>?_) AllReadyH.nil
          · skip
            go_simp
            refine (HFF.out _ _ (w.heap.size+1+1+1+1) _ (by exact zO q1 o1) (by exact zO q2 o2) (by (try simp) <;> omega)).mono ?_
            rintro _ w6 ⟨⟨y1,y2,rfl,oY1,oY2,fY1,fY2⟩,hO⟩
            have hz6:=hO.2.2.2.1
            (try simp at hz6)
            have hX6:Below w4.heap.size w4 w6:=bOnl (by exact zB) hO (fun j hj=>by have:=(b1 j hj).1;omega) (fun j hj=>by have:=(b2 j hj).1;omega)
            have zz:=onlHp hO (i:=w5.heap.size) (by (try simp) <;> omega) (fun e=>by have:=b1 _ e.symm;omega) (fun e=>by have:=b2 _ e.symm;omega)
            simp [go_sem] at zz
            (try clear t13 n13)
            have t13:=zz
            clear zz
            have n13:=(bO t13).2.2
            have ya13:y1.ownBlock≠some (w5.heap.size):=(fun e=>by rcases fY1 _ e with g1|g1;(have:=b1 _ g1;omega);((try simp at g1);omega))
            have yb13:y2.ownBlock≠some (w5.heap.size):=(fun e=>by rcases fY2 _ e with g1|g1;(have:=b2 _ g1;omega);((try simp at g1);omega))
            have zz:=onlHp hO (i:=w5.heap.size+1) (by (try simp) <;> omega) (fun e=>by have:=b1 _ e.symm;omega) (fun e=>by have:=b2 _ e.symm;omega)
            simp [go_sem] at zz
            (try clear t12 n12)
            have t12:=zz
            clear zz
            have n12:=(bO t12).2.2
            have ya12:y1.ownBlock≠some (w5.heap.size+1):=(fun e=>by rcases fY1 _ e with g1|g1;(have:=b1 _ g1;omega);((try simp at g1);omega))
            have yb12:y2.ownBlock≠some (w5.heap.size+1):=(fun e=>by rcases fY2 _ e with g1|g1;(have:=b2 _ g1;omega);((try simp at g1);omega))
            obtain ⟨ya,yp,rfl,_⟩:=oY1.seg
            obtain ⟨yb,yq,rfl,_⟩:=oY2.seg
            clear b1 b2 o1 o2 q1 q2 fY1 fY2 hO
            refine hK.out _ _ (sOf.out _ hX6) (fun hS7=>?_)
            clear hK hX5
            (try simp only [Act.put,List.setIfInBounds_toArray,List.set_cons_zero,List.set_cons_succ])
            refine wpAnyH_take (i:=8) (oi:=⟨some 44,_,_,_,_,_⟩) (v:=?_) rfl (by kernel_rfl) (by kernel_rfl) (by kernel_rfl) (fun _ _ _ h=>h) (Or.inl ⟨by rfl,?_⟩) (by assumption) ?_;rotate_left;(focus (intro w' hSw;(try dsimp only at hSw);go_simp;(try with_reducible rfl)));(try rotate_left);(try simp only [Act.put,List.setIfInBounds_toArray,List.set_cons_zero,List.set_cons_succ])
            refine wpAnyH_take (i:=9) (oi:=⟨some 53,_,_,_,_,_⟩) (v:=?_) rfl (by kernel_rfl) (by kernel_rfl) (by kernel_rfl) (fun _ _ _ h=>h) (Or.inl ⟨by rfl,?_⟩) (by assumption) ?_;rotate_left;(focus (intro w' hSw;(try dsimp only at hSw);go_simp;(try with_reducible rfl)));(try rotate_left);(try simp only [Act.put,List.setIfInBounds_toArray,List.set_cons_zero,List.set_cons_succ])
            refine wpAnyH_take (i:=10) (oi:=⟨some 54,_,_,_,_,_⟩) (v:=?_) rfl (by kernel_rfl) (by kernel_rfl) (by kernel_rfl) (fun _ _ _ h=>h) (Or.inl ⟨by rfl,?_⟩) (by assumption) ?_;rotate_left;(focus (intro w' hSw;(try dsimp only at hSw);go_simp;(try with_reducible rfl)));(try rotate_left);(try simp only [Act.put,List.setIfInBounds_toArray,List.set_cons_zero,List.set_cons_succ])
            refine wpAnyH_take (i:=11) (oi:=⟨some 55,_,_,_,_,_⟩) (v:=?_) rfl (by kernel_rfl) (by kernel_rfl) (by kernel_rfl) (fun _ _ _ h=>h) (Or.inl ⟨by rfl,?_⟩) (by assumption) ?_;rotate_left;(focus (intro w' hSw;(try dsimp only at hSw);go_simp;(try with_reducible rfl)));(try rotate_left);(try simp only [Act.put,List.setIfInBounds_toArray,List.set_cons_zero,List.set_cons_succ])
            refine wpAnyH_ready (rs:=[14]) (by kernel_rfl) (by simp) ?_
            refine AllReadyH.cons (o:=⟨none,_,_,_,_,_⟩) rfl (fun K hK=>?_) AllReadyH.nil
            go_simp
            refine hK.out _ _ (sOf.out _ (by exact zB)) (fun hS14=>?_)
            clear hK
            (try simp only [Act.put,List.setIfInBounds_toArray,List.set_cons_zero,List.set_cons_succ])
            refine wpAnyH_ready (rs:=[15]) (by kernel_rfl) (by simp) ?_
            refine AllReadyH.cons (o:=⟨none,_,_,_,_,_⟩) rfl (fun K hK=>?_) AllReadyH.nil
            go_simp
            refine hK.out _ _ (sOf.out _ (by exact zB)) (fun hS15=>?_)
            clear hK
            (try simp only [Act.put,List.setIfInBounds_toArray,List.set_cons_zero,List.set_cons_succ])
            refine wpAnyH_take (i:=16) (oi:=⟨some 10,_,_,_,_,_⟩) (v:=?_) rfl (by kernel_rfl) (by kernel_rfl) (by kernel_rfl) (fun _ _ _ h=>h) (Or.inl ⟨by rfl,?_⟩) (by assumption) ?_;rotate_left;(focus (intro w' hSw;(try dsimp only at hSw);go_simp;(try with_reducible rfl)));(try rotate_left);(try simp only [Act.put,List.setIfInBounds_toArray,List.set_cons_zero,List.set_cons_succ])
            refine wpAnyH_done (by kernel_rfl) ?_ _
            go_wp2_with fail
            go_meet
            refine ⟨_,_,ya,yb,yp,yq,rfl,rfl,rfl,?_,?_,?_,?_,by exact zB,by (try simp) <;> omega,by (try simp) <;> omega⟩
            · simp [go_sem, *] <;> rfl
            · simp [go_sem, *] <;> rfl
            · (repeat first|with_reducible exact oY1|with_reducible refine oAl ?_ _|with_reducible refine oDr ?_|((with_reducible first|refine own_store ?_ ?_ _|refine own_box ?_ ?_);rotate_left;focus first|(refine own_ne oY1 ?_;(try dsimp only);omega)|(refine own_ne' oY1 ?_;(try dsimp only);omega)|exact (by assumption)))
            · (repeat first|with_reducible exact oY2|with_reducible refine oAl ?_ _|with_reducible refine oDr ?_|((with_reducible first|refine own_store ?_ ?_ _|refine own_box ?_ ?_);rotate_left;focus first|(refine own_ne oY2 ?_;(try dsimp only);omega)|(refine own_ne' oY2 ?_;(try dsimp only);omega)|exact (by assumption)))
    · skip
      go_simp
      refine hK.out _ _ (sOf.out _ (by exact zB)) (fun hS12=>?_)
      clear hK
      (try simp only [Act.put,List.setIfInBounds_toArray,List.set_cons_zero,List.set_cons_succ])
      refine wpAnyH_ready (rs:=[5,13]) (by kernel_rfl) (by simp) ?_
      refine AllReadyH.cons (o:=⟨some 50,_,_,_,_,_⟩) rfl (fun K hK=>?_) (AllReadyH.cons (o:=⟨some 9,_,_,_,_,_⟩) rfl (fun K hK=>?_) AllReadyH.nil)
      · skip
        go_simp
        go_at_call 16
        refine (iCopied_any c a b p q _ ((H1.out.below (by exact zB)).more (by (try simp) <;> omega)) Z1.out ((H2.out.below (by exact zB)).more (by (try simp) <;> omega)) Z2.out m1 m2).mono ?_
        rintro _ w5 ⟨⟨v1,v2,rfl,o1,o2⟩,hb5⟩
        have hX5:Below w4.heap.size w4 w5:=bT (by exact zB) hb5
        have hz5:=hb5.size
        (try simp at hz5)
        (try simp at o1 o2)
        have b1:=fun j (hj:v1.ownBlock=some j)=>o1.lt j hj
        have b2:=fun j (hj:v2.ownBlock=some j)=>o2.lt j hj
        obtain ⟨va,vp,rfl,_⟩:=o1.seg
        obtain ⟨vb,vq,rfl,_⟩:=o2.seg
        have q1:=own_lo (lo':=w.heap.size+1+1+1+1) o1 (by omega)
        have q2:=own_lo (lo':=w.heap.size+1+1+1+1) o2 (by omega)
        have t12:=hpB hb5 (b:=w4.heap.size) (by (try simp) <;> omega)
        simp [go_sem] at t12
        have n12:=(bO t12).2.2
        have m12:w4.heap.size<w5.heap.size:=by omega
        clear hb5
        refine hK.out _ _ (sOf.out _ hX5) (fun hS5=>?_)
        clear hK
        (try simp only [Act.put,List.setIfInBounds_toArray,List.set_cons_zero,List.set_cons_succ])
        refine wpAnyH_ready (rs:=[7,13]) (by kernel_rfl) (by simp) ?_
        refine AllReadyH.cons (o:=⟨some 52,_,_,_,_,_⟩) rfl (fun K hK=>?_) (AllReadyH.cons (o:=⟨some 9,_,_,_,_,_⟩) rfl (fun K hK=>?_) AllReadyH.nil)
        · skip
          go_simp
          refine (HFF.out _ _ (w.heap.size+1+1+1+1) _ (by exact zO q1 o1) (by exact zO q2 o2) (by (try simp) <;> omega)).mono ?_
          rintro _ w6 ⟨⟨y1,y2,rfl,oY1,oY2,fY1,fY2⟩,hO⟩
          have hz6:=hO.2.2.2.1
          (try simp at hz6)
          have hX6:Below w4.heap.size w4 w6:=bOnl (by exact zB) hO (fun j hj=>by have:=(b1 j hj).1;omega) (fun j hj=>by have:=(b2 j hj).1;omega)
          have zz:=onlHp hO (i:=w4.heap.size) (by (try simp) <;> omega) (fun e=>by have:=b1 _ e.symm;omega) (fun e=>by have:=b2 _ e.symm;omega)
          simp [go_sem,t12,n12] at zz
          (try clear t12 n12)
          have t12:=zz
          clear zz
          have n12:=(bO t12).2.2
          have ya12:y1.ownBlock≠some (w4.heap.size):=(fun e=>by rcases fY1 _ e with g1|g1;(have:=b1 _ g1;omega);((try simp at g1);omega))
          have yb12:y2.ownBlock≠some (w4.heap.size):=(fun e=>by rcases fY2 _ e with g1|g1;(have:=b2 _ g1;omega);((try simp at g1);omega))
          obtain ⟨ya,yp,rfl,_⟩:=oY1.seg
          obtain ⟨yb,yq,rfl,_⟩:=oY2.seg
          clear b1 b2 o1 o2 q1 q2 fY1 fY2 hO
          refine hK.out _ _ (sOf.out _ hX6) (fun hS7=>?_)
          clear hK hX5
          (try simp only [Act.put,List.setIfInBounds_toArray,List.set_cons_zero,List.set_cons_succ])
          refine wpAnyH_take (i:=8) (oi:=⟨some 44,_,_,_,_,_⟩) (v:=?_) rfl (by kernel_rfl) (by kernel_rfl) (by kernel_rfl) (fun _ _ _ h=>h) (Or.inl ⟨by rfl,?_⟩) (by assumption) ?_;rotate_left;(focus (intro w' hSw;(try dsimp only at hSw);go_simp;(try with_reducible rfl)));(try rotate_left);(try simp only [Act.put,List.setIfInBounds_toArray,List.set_cons_zero,List.set_cons_succ])
          refine wpAnyH_take (i:=9) (oi:=⟨some 53,_,_,_,_,_⟩) (v:=?_) rfl (by kernel_rfl) (by kernel_rfl) (by kernel_rfl) (fun _ _ _ h=>h) (Or.inl ⟨by rfl,?_⟩) (by assumption) ?_;rotate_left;(focus (intro w' hSw;(try dsimp only at hSw);go_simp;(try with_reducible rfl)));(try rotate_left);(try simp only [Act.put,List.setIfInBounds_toArray,List.set_cons_zero,List.set_cons_succ])
          refine wpAnyH_take (i:=10) (oi:=⟨some 54,_,_,_,_,_⟩) (v:=?_) rfl (by kernel_rfl) (by kernel_rfl) (by kernel_rfl) (fun _ _ _ h=>h) (Or.inl ⟨by rfl,?_⟩) (by assumption) ?_;rotate_left;(focus (intro w' hSw;(try dsimp only at hSw);go_simp;(try with_reducible rfl)));(try rotate_left);(try simp only [Act.put,List.setIfInBounds_toArray,List.set_cons_zero,List.set_cons_succ])
          refine wpAnyH_take (i:=11) (oi:=⟨some 55,_,_,_,_,_⟩) (v:=?_) rfl (by kernel_rfl) (by kernel_rfl) (by kernel_rfl) (fun _ _ _ h=>h) (Or.inl ⟨by rfl,?_⟩) (by assumption) ?_;rotate_left;(focus (intro w' hSw;(try dsimp only at hSw);go_simp;(try with_reducible rfl)));(try rotate_left);(try simp only [Act.put,List.setIfInBounds_toArray,List.set_cons_zero,List.set_cons_succ])
          refine wpAnyH_ready (rs:=[13]) (by kernel_rfl) (by simp) ?_
          refine AllReadyH.cons (o:=⟨some 9,_,_,_,_,_⟩) rfl (fun K hK=>?_) AllReadyH.nil
          · skip
            go_simp
            refine hK.out _ _ (sOf.out _ (by exact zB)) (fun hS13=>?_)
            clear hK
            (try simp only [Act.put,List.setIfInBounds_toArray,List.set_cons_zero,List.set_cons_succ])
            refine wpAnyH_ready (rs:=[14]) (by kernel_rfl) (by simp) ?_
            refine AllReadyH.cons (o:=⟨none,_,_,_,_,_⟩) rfl (fun K hK=>?_) AllReadyH.nil
            go_simp
            refine hK.out _ _ (sOf.out _ (by exact zB)) (fun hS14=>?_)
            clear hK
            (try simp only [Act.put,List.setIfInBounds_toArray,List.set_cons_zero,List.set_cons_succ])
            refine wpAnyH_ready (rs:=[15]) (by kernel_rfl) (by simp) ?_
            refine AllReadyH.cons (o:=⟨none,_,_,_,_,_⟩) rfl (fun K hK=>?_) AllReadyH.nil
            go_simp
            refine hK.out _ _ (sOf.out _ (by exact zB)) (fun hS15=>?_)
            clear hK
            (try simp only [Act.put,List.setIfInBounds_toArray,List.set_cons_zero,List.set_cons_succ])
            refine wpAnyH_take (i:=16) (oi:=⟨some 10,_,_,_,_,_⟩) (v:=?_) rfl (by kernel_rfl) (by kernel_rfl) (by kernel_rfl) (fun _ _ _ h=>h) (Or.inl ⟨by rfl,?_⟩) (by assumption) ?_;rotate_left;(focus (intro w' hSw;(try dsimp only at hSw);go_simp;(try with_reducible rfl)));(try rotate_left);(try simp only [Act.put,List.setIfInBounds_toArray,List.set_cons_zero,List.set_cons_succ])
            refine wpAnyH_done (by kernel_rfl) ?_ _
            go_wp2_with fail
            go_meet
            refine ⟨_,_,ya,yb,yp,yq,rfl,rfl,rfl,?_,?_,?_,?_,by exact zB,by (try simp) <;> omega,by (try simp) <;> omega⟩
            · simp [go_sem, *] <;> rfl
            · simp [go_sem, *] <;> rfl
            · (repeat first|with_reducible exact oY1|with_reducible refine oAl ?_ _|with_reducible refine oDr ?_|((with_reducible first|refine own_store ?_ ?_ _|refine own_box ?_ ?_);rotate_left;focus first|(refine own_ne oY1 ?_;(try dsimp only);omega)|(refine own_ne' oY1 ?_;(try dsimp only);omega)|exact (by assumption)))
            · (repeat first|with_reducible exact oY2|with_reducible refine oAl ?_ _|with_reducible refine oDr ?_|((with_reducible first|refine own_store ?_ ?_ _|refine own_box ?_ ?_);rotate_left;focus first|(refine own_ne oY2 ?_;(try dsimp only);omega)|(refine own_ne' oY2 ?_;(try dsimp only);omega)|exact (by assumption)))
        · skip
          go_simp
          refine hK.out _ _ (sOf.out _ (by exact zB)) (fun hS13=>?_)
          clear hK
          (try simp only [Act.put,List.setIfInBounds_toArray,List.set_cons_zero,List.set_cons_succ])
          refine wpAnyH_ready (rs:=[7]) (by kernel_rfl) (by simp) ?_
          refine AllReadyH.cons (o:=⟨some 52,_,_,_,_,_⟩) rfl (fun K hK=>?_) AllReadyH.nil
          · skip
            go_simp
            refine (HFF.out _ _ (w.heap.size+1+1+1+1) _ (by exact zO q1 o1) (by exact zO q2 o2) (by (try simp) <;> omega)).mono ?_
            rintro _ w6 ⟨⟨y1,y2,rfl,oY1,oY2,fY1,fY2⟩,hO⟩
            have hz6:=hO.2.2.2.1
            (try simp at hz6)
            have hX6:Below w4.heap.size w4 w6:=bOnl (by exact zB) hO (fun j hj=>by have:=(b1 j hj).1;omega) (fun j hj=>by have:=(b2 j hj).1;omega)
            have zz:=onlHp hO (i:=w4.heap.size) (by (try simp) <;> omega) (fun e=>by have:=b1 _ e.symm;omega) (fun e=>by have:=b2 _ e.symm;omega)
            simp [go_sem,t12,n12] at zz
            (try clear t12 n12)
            have t12:=zz
            clear zz
            have n12:=(bO t12).2.2
            have ya12:y1.ownBlock≠some (w4.heap.size):=(fun e=>by rcases fY1 _ e with g1|g1;(have:=b1 _ g1;omega);((try simp at g1);omega))
            have yb12:y2.ownBlock≠some (w4.heap.size):=(fun e=>by rcases fY2 _ e with g1|g1;(have:=b2 _ g1;omega);((try simp at g1);omega))
            have zz:=onlHp hO (i:=w5.heap.size) (by (try simp) <;> omega) (fun e=>by have:=b1 _ e.symm;omega) (fun e=>by have:=b2 _ e.symm;omega)
            simp [go_sem] at zz
            (try clear t13 n13)
            have t13:=zz
            clear zz
            have n13:=(bO t13).2.2
            have ya13:y1.ownBlock≠some (w5.heap.size):=(fun e=>by rcases fY1 _ e with g1|g1;(have:=b1 _ g1;omega);((try simp at g1);omega))
            have yb13:y2.ownBlock≠some (w5.heap.size):=(fun e=>by rcases fY2 _ e with g1|g1;(have:=b2 _ g1;omega);((try simp at g1);omega))
            obtain ⟨ya,yp,rfl,_⟩:=oY1.seg
            obtain ⟨yb,yq,rfl,_⟩:=oY2.seg
            clear b1 b2 o1 o2 q1 q2 fY1 fY2 hO
            refine hK.out _ _ (sOf.out _ hX6) (fun hS7=>?_)
            clear hK hX5
            (try simp only [Act.put,List.setIfInBounds_toArray,List.set_cons_zero,List.set_cons_succ])
            refine wpAnyH_take (i:=8) (oi:=⟨some 44,_,_,_,_,_⟩) (v:=?_) rfl (by kernel_rfl) (by kernel_rfl) (by kernel_rfl) (fun _ _ _ h=>h) (Or.inl ⟨by rfl,?_⟩) (by assumption) ?_;rotate_left;(focus (intro w' hSw;(try dsimp only at hSw);go_simp;(try with_reducible rfl)));(try rotate_left);(try simp only [Act.put,List.setIfInBounds_toArray,List.set_cons_zero,List.set_cons_succ])
            refine wpAnyH_take (i:=9) (oi:=⟨some 53,_,_,_,_,_⟩) (v:=?_) rfl (by kernel_rfl) (by kernel_rfl) (by kernel_rfl) (fun _ _ _ h=>h) (Or.inl ⟨by rfl,?_⟩) (by assumption) ?_;rotate_left;(focus (intro w' hSw;(try dsimp only at hSw);go_simp;(try with_reducible rfl)));(try rotate_left);(try simp only [Act.put,List.setIfInBounds_toArray,List.set_cons_zero,List.set_cons_succ])
            refine wpAnyH_take (i:=10) (oi:=⟨some 54,_,_,_,_,_⟩) (v:=?_) rfl (by kernel_rfl) (by kernel_rfl) (by kernel_rfl) (fun _ _ _ h=>h) (Or.inl ⟨by rfl,?_⟩) (by assumption) ?_;rotate_left;(focus (intro w' hSw;(try dsimp only at hSw);go_simp;(try with_reducible rfl)));(try rotate_left);(try simp only [Act.put,List.setIfInBounds_toArray,List.set_cons_zero,List.set_cons_succ])
            refine wpAnyH_take (i:=11) (oi:=⟨some 55,_,_,_,_,_⟩) (v:=?_) rfl (by kernel_rfl) (by kernel_rfl) (by kernel_rfl) (fun _ _ _ h=>h) (Or.inl ⟨by rfl,?_⟩) (by assumption) ?_;rotate_left;(focus (intro w' hSw;(try dsimp only at hSw);go_simp;(try with_reducible rfl)));(try rotate_left);(try simp only [Act.put,List.setIfInBounds_toArray,List.set_cons_zero,List.set_cons_succ])
            refine wpAnyH_ready (rs:=[14]) (by kernel_rfl) (by simp) ?_
            refine AllReadyH.cons (o:=⟨none,_,_,_,_,_⟩) rfl (fun K hK=>?_) AllReadyH.nil
            go_simp
            refine hK.out _ _ (sOf.out _ (by exact zB)) (fun hS14=>?_)
            clear hK
            (try simp only [Act.put,List.setIfInBounds_toArray,List.set_cons_zero,List.set_cons_succ])
            refine wpAnyH_ready (rs:=[15]) (by kernel_rfl) (by simp) ?_
            refine AllReadyH.cons (o:=⟨none,_,_,_,_,_⟩) rfl (fun K hK=>?_) AllReadyH.nil
            go_simp
            refine hK.out _ _ (sOf.out _ (by exact zB)) (fun hS15=>?_)
            clear hK
            (try simp only [Act.put,List.setIfInBounds_toArray,List.set_cons_zero,List.set_cons_succ])
            refine wpAnyH_take (i:=16) (oi:=⟨some 10,_,_,_,_,_⟩) (v:=?_) rfl (by kernel_rfl) (by kernel_rfl) (by kernel_rfl) (fun _ _ _ h=>h) (Or.inl ⟨by rfl,?_⟩) (by assumption) ?_;rotate_left;(focus (intro w' hSw;(try dsimp only at hSw);go_simp;(try with_reducible rfl)));(try rotate_left);(try simp only [Act.put,List.setIfInBounds_toArray,List.set_cons_zero,List.set_cons_succ])
            refine wpAnyH_done (by kernel_rfl) ?_ _
            go_wp2_with fail
            go_meet
            refine ⟨_,_,ya,yb,yp,yq,rfl,rfl,rfl,?_,?_,?_,?_,by exact zB,by (try simp) <;> omega,by (try simp) <;> omega⟩
            · simp [go_sem, *] <;> rfl
            · simp [go_sem, *] <;> rfl
            · (repeat first|with_reducible exact oY1|with_reducible refine oAl ?_ _|with_reducible refine oDr ?_|((with_reducible first|refine own_store ?_ ?_ _|refine own_box ?_ ?_);rotate_left;focus first|(refine own_ne oY1 ?_;(try dsimp only);omega)|(refine own_ne' oY1 ?_;(try dsimp only);omega)|exact (by assumption)))
            · (repeat first|with_reducible exact oY2|with_reducible refine oAl ?_ _|with_reducible refine oDr ?_|((with_reducible first|refine own_store ?_ ?_ _|refine own_box ?_ ?_);rotate_left;focus first|(refine own_ne oY2 ?_;(try dsimp only);omega)|(refine own_ne' oY2 ?_;(try dsimp only);omega)|exact (by assumption)))
      · skip
        go_simp
        refine hK.out _ _ (sOf.out _ (by exact zB)) (fun hS13=>?_)
        clear hK
        (try simp only [Act.put,List.setIfInBounds_toArray,List.set_cons_zero,List.set_cons_succ])
        refine wpAnyH_ready (rs:=[5]) (by kernel_rfl) (by simp) ?_
        refine AllReadyH.cons (o:=⟨some 50,_,_,_,_,_⟩) rfl (fun K hK=>?_) AllReadyH.nil
        · skip
          go_simp
          go_at_call 16
          refine (iCopied_any c a b p q _ ((H1.out.below (by exact zB)).more (by (try simp) <;> omega)) Z1.out ((H2.out.below (by exact zB)).more (by (try simp) <;> omega)) Z2.out m1 m2).mono ?_
          rintro _ w5 ⟨⟨v1,v2,rfl,o1,o2⟩,hb5⟩
          have hX5:Below w4.heap.size w4 w5:=bT (by exact zB) hb5
          have hz5:=hb5.size
          (try simp at hz5)
          (try simp at o1 o2)
          have b1:=fun j (hj:v1.ownBlock=some j)=>o1.lt j hj
          have b2:=fun j (hj:v2.ownBlock=some j)=>o2.lt j hj
          obtain ⟨va,vp,rfl,_⟩:=o1.seg
          obtain ⟨vb,vq,rfl,_⟩:=o2.seg
          have q1:=own_lo (lo':=w.heap.size+1+1+1+1) o1 (by omega)
          have q2:=own_lo (lo':=w.heap.size+1+1+1+1) o2 (by omega)
          have t12:=hpB hb5 (b:=w4.heap.size) (by (try simp) <;> omega)
          simp [go_sem] at t12
          have n12:=(bO t12).2.2
          have t13:=hpB hb5 (b:=w4.heap.size+1) (by (try simp) <;> omega)
          simp [go_sem] at t13
          have n13:=(bO t13).2.2
          have m12:w4.heap.size<w5.heap.size:=by omega
          have m13:w4.heap.size+1<w5.heap.size:=by omega
          clear hb5
          refine hK.out _ _ (sOf.out _ hX5) (fun hS5=>?_)
          clear hK
          (try simp only [Act.put,List.setIfInBounds_toArray,List.set_cons_zero,List.set_cons_succ])
          refine wpAnyH_ready (rs:=[7]) (by kernel_rfl) (by simp) ?_
          refine AllReadyH.cons (o:=⟨some 52,_,_,_,_,_⟩) rfl (fun K hK=>?_) AllReadyH.nil
          · skip
            go_simp
            refine (HFF.out _ _ (w.heap.size+1+1+1+1) _ (by exact zO q1 o1) (by exact zO q2 o2) (by (try simp) <;> omega)).mono ?_
            rintro _ w6 ⟨⟨y1,y2,rfl,oY1,oY2,fY1,fY2⟩,hO⟩
            have hz6:=hO.2.2.2.1
            (try simp at hz6)
            have hX6:Below w4.heap.size w4 w6:=bOnl (by exact zB) hO (fun j hj=>by have:=(b1 j hj).1;omega) (fun j hj=>by have:=(b2 j hj).1;omega)
            have zz:=onlHp hO (i:=w4.heap.size) (by (try simp) <;> omega) (fun e=>by have:=b1 _ e.symm;omega) (fun e=>by have:=b2 _ e.symm;omega)
            simp [go_sem,t12,n12] at zz
            (try clear t12 n12)
            have t12:=zz
            clear zz
            have n12:=(bO t12).2.2
            have ya12:y1.ownBlock≠some (w4.heap.size):=(fun e=>by rcases fY1 _ e with g1|g1;(have:=b1 _ g1;omega);((try simp at g1);omega))
            have yb12:y2.ownBlock≠some (w4.heap.size):=(fun e=>by rcases fY2 _ e with g1|g1;(have:=b2 _ g1;omega);((try simp at g1);omega))
            have zz:=onlHp hO (i:=w4.heap.size+1) (by (try simp) <;> omega) (fun e=>by have:=b1 _ e.symm;omega) (fun e=>by have:=b2 _ e.symm;omega)
            simp [go_sem,t13,n13] at zz
            (try clear t13 n13)
            have t13:=zz
            clear zz
            have n13:=(bO t13).2.2
            have ya13:y1.ownBlock≠some (w4.heap.size+1):=(fun e=>by rcases fY1 _ e with g1|g1;(have:=b1 _ g1;omega);((try simp at g1);omega))
            have yb13:y2.ownBlock≠some (w4.heap.size+1):=(fun e=>by rcases fY2 _ e with g1|g1;(have:=b2 _ g1;omega);((try simp at g1);omega))
            obtain ⟨ya,yp,rfl,_⟩:=oY1.seg
            obtain ⟨yb,yq,rfl,_⟩:=oY2.seg
            clear b1 b2 o1 o2 q1 q2 fY1 fY2 hO
            refine hK.out _ _ (sOf.out _ hX6) (fun hS7=>?_)
            clear hK hX5
            (try simp only [Act.put,List.setIfInBounds_toArray,List.set_cons_zero,List.set_cons_succ])
            refine wpAnyH_take (i:=8) (oi:=⟨some 44,_,_,_,_,_⟩) (v:=?_) rfl (by kernel_rfl) (by kernel_rfl) (by kernel_rfl) (fun _ _ _ h=>h) (Or.inl ⟨by rfl,?_⟩) (by assumption) ?_;rotate_left;(focus (intro w' hSw;(try dsimp only at hSw);go_simp;(try with_reducible rfl)));(try rotate_left);(try simp only [Act.put,List.setIfInBounds_toArray,List.set_cons_zero,List.set_cons_succ])
            refine wpAnyH_take (i:=9) (oi:=⟨some 53,_,_,_,_,_⟩) (v:=?_) rfl (by kernel_rfl) (by kernel_rfl) (by kernel_rfl) (fun _ _ _ h=>h) (Or.inl ⟨by rfl,?_⟩) (by assumption) ?_;rotate_left;(focus (intro w' hSw;(try dsimp only at hSw);go_simp;(try with_reducible rfl)));(try rotate_left);(try simp only [Act.put,List.setIfInBounds_toArray,List.set_cons_zero,List.set_cons_succ])
            refine wpAnyH_take (i:=10) (oi:=⟨some 54,_,_,_,_,_⟩) (v:=?_) rfl (by kernel_rfl) (by kernel_rfl) (by kernel_rfl) (fun _ _ _ h=>h) (Or.inl ⟨by rfl,?_⟩) (by assumption) ?_;rotate_left;(focus (intro w' hSw;(try dsimp only at hSw);go_simp;(try with_reducible rfl)));(try rotate_left);(try simp only [Act.put,List.setIfInBounds_toArray,List.set_cons_zero,List.set_cons_succ])
            refine wpAnyH_take (i:=11) (oi:=⟨some 55,_,_,_,_,_⟩) (v:=?_) rfl (by kernel_rfl) (by kernel_rfl) (by kernel_rfl) (fun _ _ _ h=>h) (Or.inl ⟨by rfl,?_⟩) (by assumption) ?_;rotate_left;(focus (intro w' hSw;(try dsimp only at hSw);go_simp;(try with_reducible rfl)));(try rotate_left);(try simp only [Act.put,List.setIfInBounds_toArray,List.set_cons_zero,List.set_cons_succ])
            refine wpAnyH_ready (rs:=[14]) (by kernel_rfl) (by simp) ?_
            refine AllReadyH.cons (o:=⟨none,_,_,_,_,_⟩) rfl (fun K hK=>?_) AllReadyH.nil
            go_simp
            refine hK.out _ _ (sOf.out _ (by exact zB)) (fun hS14=>?_)
            clear hK
            (try simp only [Act.put,List.setIfInBounds_toArray,List.set_cons_zero,List.set_cons_succ])
            refine wpAnyH_ready (rs:=[15]) (by kernel_rfl) (by simp) ?_
            refine AllReadyH.cons (o:=⟨none,_,_,_,_,_⟩) rfl (fun K hK=>?_) AllReadyH.nil
            go_simp
            refine hK.out _ _ (sOf.out _ (by exact zB)) (fun hS15=>?_)
            clear hK
            (try simp only [Act.put,List.setIfInBounds_toArray,List.set_cons_zero,List.set_cons_succ])
            refine wpAnyH_take (i:=16) (oi:=⟨some 10,_,_,_,_,_⟩) (v:=?_) rfl (by kernel_rfl) (by kernel_rfl) (by kernel_rfl) (fun _ _ _ h=>h) (Or.inl ⟨by rfl,?_⟩) (by assumption) ?_;rotate_left;(focus (intro w' hSw;(try dsimp only at hSw);go_simp;(try with_reducible rfl)));(try rotate_left);(try simp only [Act.put,List.setIfInBounds_toArray,List.set_cons_zero,List.set_cons_succ])
            refine wpAnyH_done (by kernel_rfl) ?_ _
            go_wp2_with fail
            go_meet
            refine ⟨_,_,ya,yb,yp,yq,rfl,rfl,rfl,?_,?_,?_,?_,by exact zB,by (try simp) <;> omega,by (try simp) <;> omega⟩
            · simp [go_sem, *] <;> rfl
            · simp [go_sem, *] <;> rfl
            · (repeat first|with_reducible exact oY1|with_reducible refine oAl ?_ _|with_reducible refine oDr ?_|((with_reducible first|refine own_store ?_ ?_ _|refine own_box ?_ ?_);rotate_left;focus first|(refine own_ne oY1 ?_;(try dsimp only);omega)|(refine own_ne' oY1 ?_;(try dsimp only);omega)|exact (by assumption)))
            · (repeat first|with_reducible exact oY2|with_reducible refine oAl ?_ _|with_reducible refine oDr ?_|((with_reducible first|refine own_store ?_ ?_ _|refine own_box ?_ ?_);rotate_left;focus first|(refine own_ne oY2 ?_;(try dsimp only);omega)|(refine own_ne' oY2 ?_;(try dsimp only);omega)|exact (by assumption)))
    · skip
      go_simp
      refine hK.out _ _ (sOf.out _ (by exact zB)) (fun hS13=>?_)
      clear hK
      (try simp only [Act.put,List.setIfInBounds_toArray,List.set_cons_zero,List.set_cons_succ])
      refine wpAnyH_ready (rs:=[5,12]) (by kernel_rfl) (by simp) ?_
      refine AllReadyH.cons (o:=⟨some 50,_,_,_,_,_⟩) rfl (fun K hK=>?_) (AllReadyH.cons (o:=⟨some 8,_,_,_,_,_⟩) rfl (fun K hK=>?_) AllReadyH.nil)
      · skip
        go_simp
        go_at_call 16
        refine (iCopied_any c a b p q _ ((H1.out.below (by exact zB)).more (by (try simp) <;> omega)) Z1.out ((H2.out.below (by exact zB)).more (by (try simp) <;> omega)) Z2.out m1 m2).mono ?_
        rintro _ w5 ⟨⟨v1,v2,rfl,o1,o2⟩,hb5⟩
        have hX5:Below w4.heap.size w4 w5:=bT (by exact zB) hb5
        have hz5:=hb5.size
        (try simp at hz5)
        (try simp at o1 o2)
        have b1:=fun j (hj:v1.ownBlock=some j)=>o1.lt j hj
        have b2:=fun j (hj:v2.ownBlock=some j)=>o2.lt j hj
        obtain ⟨va,vp,rfl,_⟩:=o1.seg
        obtain ⟨vb,vq,rfl,_⟩:=o2.seg
        have q1:=own_lo (lo':=w.heap.size+1+1+1+1) o1 (by omega)
        have q2:=own_lo (lo':=w.heap.size+1+1+1+1) o2 (by omega)
        have t13:=hpB hb5 (b:=w4.heap.size) (by (try simp) <;> omega)
        simp [go_sem] at t13
        have n13:=(bO t13).2.2
        have m13:w4.heap.size<w5.heap.size:=by omega
        clear hb5
        refine hK.out _ _ (sOf.out _ hX5) (fun hS5=>?_)
        clear hK
        (try simp only [Act.put,List.setIfInBounds_toArray,List.set_cons_zero,List.set_cons_succ])
        refine wpAnyH_ready (rs:=[7,12]) (by kernel_rfl) (by simp) ?_
        refine AllReadyH.cons (o:=⟨some 52,_,_,_,_,_⟩) rfl (fun K hK=>?_) (AllReadyH.cons (o:=⟨some 8,_,_,_,_,_⟩) rfl (fun K hK=>?_) AllReadyH.nil)
        · skip
          go_simp
          refine (HFF.out _ _ (w.heap.size+1+1+1+1) _ (by exact zO q1 o1) (by exact zO q2 o2) (by (try simp) <;> omega)).mono ?_
          rintro _ w6 ⟨⟨y1,y2,rfl,oY1,oY2,fY1,fY2⟩,hO⟩
          have hz6:=hO.2.2.2.1
          (try simp at hz6)
          have hX6:Below w4.heap.size w4 w6:=bOnl (by exact zB) hO (fun j hj=>by have:=(b1 j hj).1;omega) (fun j hj=>by have:=(b2 j hj).1;omega)
          have zz:=onlHp hO (i:=w4.heap.size) (by (try simp) <;> omega) (fun e=>by have:=b1 _ e.symm;omega) (fun e=>by have:=b2 _ e.symm;omega)
          simp [go_sem,t13,n13] at zz
          (try clear t13 n13)
          have t13:=zz
          clear zz
          have n13:=(bO t13).2.2
          have ya13:y1.ownBlock≠some (w4.heap.size):=(fun e=>by rcases fY1 _ e with g1|g1;(have:=b1 _ g1;omega);((try simp at g1);omega))
          have yb13:y2.ownBlock≠some (w4.heap.size):=(fun e=>by rcases fY2 _ e with g1|g1;(have:=b2 _ g1;omega);((try simp at g1);omega))
          obtain ⟨ya,yp,rfl,_⟩:=oY1.seg
          obtain ⟨yb,yq,rfl,_⟩:=oY2.seg
          clear b1 b2 o1 o2 q1 q2 fY1 fY2 hO
          refine hK.out _ _ (sOf.out _ hX6) (fun hS7=>?_)
          clear hK hX5
          (try simp only [Act.put,List.setIfInBounds_toArray,List.set_cons_zero,List.set_cons_succ])
          refine wpAnyH_take (i:=8) (oi:=⟨some 44,_,_,_,_,_⟩) (v:=?_) rfl (by kernel_rfl) (by kernel_rfl) (by kernel_rfl) (fun _ _ _ h=>h) (Or.inl ⟨by rfl,?_⟩) (by assumption) ?_;rotate_left;(focus (intro w' hSw;(try dsimp only at hSw);go_simp;(try with_reducible rfl)));(try rotate_left);(try simp only [Act.put,List.setIfInBounds_toArray,List.set_cons_zero,List.set_cons_succ])
          refine wpAnyH_take (i:=9) (oi:=⟨some 53,_,_,_,_,_⟩) (v:=?_) rfl (by kernel_rfl) (by kernel_rfl) (by kernel_rfl) (fun _ _ _ h=>h) (Or.inl ⟨by rfl,?_⟩) (by assumption) ?_;rotate_left;(focus (intro w' hSw;(try dsimp only at hSw);go_simp;(try with_reducible rfl)));(try rotate_left);(try simp only [Act.put,List.setIfInBounds_toArray,List.set_cons_zero,List.set_cons_succ])
          refine wpAnyH_take (i:=10) (oi:=⟨some 54,_,_,_,_,_⟩) (v:=?_) rfl (by kernel_rfl) (by kernel_rfl) (by kernel_rfl) (fun _ _ _ h=>h) (Or.inl ⟨by rfl,?_⟩) (by assumption) ?_;rotate_left;(focus (intro w' hSw;(try dsimp only at hSw);go_simp;(try with_reducible rfl)));(try rotate_left);(try simp only [Act.put,List.setIfInBounds_toArray,List.set_cons_zero,List.set_cons_succ])
          refine wpAnyH_take (i:=11) (oi:=⟨some 55,_,_,_,_,_⟩) (v:=?_) rfl (by kernel_rfl) (by kernel_rfl) (by kernel_rfl) (fun _ _ _ h=>h) (Or.inl ⟨by rfl,?_⟩) (by assumption) ?_;rotate_left;(focus (intro w' hSw;(try dsimp only at hSw);go_simp;(try with_reducible rfl)));(try rotate_left);(try simp only [Act.put,List.setIfInBounds_toArray,List.set_cons_zero,List.set_cons_succ])
          refine wpAnyH_ready (rs:=[12]) (by kernel_rfl) (by simp) ?_
          refine AllReadyH.cons (o:=⟨some 8,_,_,_,_,_⟩) rfl (fun K hK=>?_) AllReadyH.nil
          · skip
            go_simp
            refine hK.out _ _ (sOf.out _ (by exact zB)) (fun hS12=>?_)
            clear hK
            (try simp only [Act.put,List.setIfInBounds_toArray,List.set_cons_zero,List.set_cons_succ])
            refine wpAnyH_ready (rs:=[14]) (by kernel_rfl) (by simp) ?_
            refine AllReadyH.cons (o:=⟨none,_,_,_,_,_⟩) rfl (fun K hK=>?_) AllReadyH.nil
            go_simp
            refine hK.out _ _ (sOf.out _ (by exact zB)) (fun hS14=>?_)
            clear hK
            (try simp only [Act.put,List.setIfInBounds_toArray,List.set_cons_zero,List.set_cons_succ])
            refine wpAnyH_ready (rs:=[15]) (by kernel_rfl) (by simp) ?_
            refine AllReadyH.cons (o:=⟨none,_,_,_,_,_⟩) rfl (fun K hK=>?_) AllReadyH.nil
            go_simp
            refine hK.out _ _ (sOf.out _ (by exact zB)) (fun hS15=>?_)
            clear hK
            (try simp only [Act.put,List.setIfInBounds_toArray,List.set_cons_zero,List.set_cons_succ])
            refine wpAnyH_take (i:=16) (oi:=⟨some 10,_,_,_,_,_⟩) (v:=?_) rfl (by kernel_rfl) (by kernel_rfl) (by kernel_rfl) (fun _ _ _ h=>h) (Or.inl ⟨by rfl,?_⟩) (by assumption) ?_;rotate_left;(focus (intro w' hSw;(try dsimp only at hSw);go_simp;(try with_reducible rfl)));(try rotate_left);(try simp only [Act.put,List.setIfInBounds_toArray,List.set_cons_zero,List.set_cons_succ])
            refine wpAnyH_done (by kernel_rfl) ?_ _
            go_wp2_with fail
            go_meet
            refine ⟨_,_,ya,yb,yp,yq,rfl,rfl,rfl,?_,?_,?_,?_,by exact zB,by (try simp) <;> omega,by (try simp) <;> omega⟩
            · simp [go_sem, *] <;> rfl
            · simp [go_sem, *] <;> rfl
            · (repeat first|with_reducible exact oY1|with_reducible refine oAl ?_ _|with_reducible refine oDr ?_|((with_reducible first|refine own_store ?_ ?_ _|refine own_box ?_ ?_);rotate_left;focus first|(refine own_ne oY1 ?_;(try dsimp only);omega)|(refine own_ne' oY1 ?_;(try dsimp only);omega)|exact (by assumption)))
            · (repeat first|with_reducible exact oY2|with_reducible refine oAl ?_ _|with_reducible refine oDr ?_|((with_reducible first|refine own_store ?_ ?_ _|refine own_box ?_ ?_);rotate_left;focus first|(refine own_ne oY2 ?_;(try dsimp only);omega)|(refine own_ne' oY2 ?_;(try dsimp only);omega)|exact (by assumption)))
        · skip
          go_simp
          refine hK.out _ _ (sOf.out _ (by exact zB)) (fun hS12=>?_)
          clear hK
          (try simp only [Act.put,List.setIfInBounds_toArray,List.set_cons_zero,List.set_cons_succ])
          refine wpAnyH_ready (rs:=[7]) (by kernel_rfl) (by simp) ?_
          refine AllReadyH.cons (o:=⟨some 52,_,_,_,_,_⟩) rfl (fun K hK=>?_) AllReadyH.nil
          · skip
            go_simp
            refine (HFF.out _ _ (w.heap.size+1+1+1+1) _ (by exact zO q1 o1) (by exact zO q2 o2) (by (try simp) <;> omega)).mono ?_
            rintro _ w6 ⟨⟨y1,y2,rfl,oY1,oY2,fY1,fY2⟩,hO⟩
            have hz6:=hO.2.2.2.1
            (try simp at hz6)
            have hX6:Below w4.heap.size w4 w6:=bOnl (by exact zB) hO (fun j hj=>by have:=(b1 j hj).1;omega) (fun j hj=>by have:=(b2 j hj).1;omega)
            have zz:=onlHp hO (i:=w4.heap.size) (by (try simp) <;> omega) (fun e=>by have:=b1 _ e.symm;omega) (fun e=>by have:=b2 _ e.symm;omega)
            simp [go_sem,t13,n13] at zz
            (try clear t13 n13)
            have t13:=zz
            clear zz
            have n13:=(bO t13).2.2
            have ya13:y1.ownBlock≠some (w4.heap.size):=(fun e=>by rcases fY1 _ e with g1|g1;(have:=b1 _ g1;omega);((try simp at g1);omega))
            have yb13:y2.ownBlock≠some (w4.heap.size):=(fun e=>by rcases fY2 _ e with g1|g1;(have:=b2 _ g1;omega);((try simp at g1);omega))
            have zz:=onlHp hO (i:=w5.heap.size) (by (try simp) <;> omega) (fun e=>by have:=b1 _ e.symm;omega) (fun e=>by have:=b2 _ e.symm;omega)
            simp [go_sem] at zz
            (try clear t12 n12)
            have t12:=zz
            clear zz
            have n12:=(bO t12).2.2
            have ya12:y1.ownBlock≠some (w5.heap.size):=(fun e=>by rcases fY1 _ e with g1|g1;(have:=b1 _ g1;omega);((try simp at g1);omega))
            have yb12:y2.ownBlock≠some (w5.heap.size):=(fun e=>by rcases fY2 _ e with g1|g1;(have:=b2 _ g1;omega);((try simp at g1);omega))
            obtain ⟨ya,yp,rfl,_⟩:=oY1.seg
            obtain ⟨yb,yq,rfl,_⟩:=oY2.seg
            clear b1 b2 o1 o2 q1 q2 fY1 fY2 hO
            refine hK.out _ _ (sOf.out _ hX6) (fun hS7=>?_)
            clear hK hX5
            (try simp only [Act.put,List.setIfInBounds_toArray,List.set_cons_zero,List.set_cons_succ])
            refine wpAnyH_take (i:=8) (oi:=⟨some 44,_,_,_,_,_⟩) (v:=?_) rfl (by kernel_rfl) (by kernel_rfl) (by kernel_rfl) (fun _ _ _ h=>h) (Or.inl ⟨by rfl,?_⟩) (by assumption) ?_;rotate_left;(focus (intro w' hSw;(try dsimp only at hSw);go_simp;(try with_reducible rfl)));(try rotate_left);(try simp only [Act.put,List.setIfInBounds_toArray,List.set_cons_zero,List.set_cons_succ])
            refine wpAnyH_take (i:=9) (oi:=⟨some 53,_,_,_,_,_⟩) (v:=?_) rfl (by kernel_rfl) (by kernel_rfl) (by kernel_rfl) (fun _ _ _ h=>h) (Or.inl ⟨by rfl,?_⟩) (by assumption) ?_;rotate_left;(focus (intro w' hSw;(try dsimp only at hSw);go_simp;(try with_reducible rfl)));(try rotate_left);(try simp only [Act.put,List.setIfInBounds_toArray,List.set_cons_zero,List.set_cons_succ])
            refine wpAnyH_take (i:=10) (oi:=⟨some 54,_,_,_,_,_⟩) (v:=?_) rfl (by kernel_rfl) (by kernel_rfl) (by kernel_rfl) (fun _ _ _ h=>h) (Or.inl ⟨by rfl,?_⟩) (by assumption) ?_;rotate_left;(focus (intro w' hSw;(try dsimp only at hSw);go_simp;(try with_reducible rfl)));(try rotate_left);(try simp only [Act.put,List.setIfInBounds_toArray,List.set_cons_zero,List.set_cons_succ])
            refine wpAnyH_take (i:=11) (oi:=⟨some 55,_,_,_,_,_⟩) (v:=?_) rfl (by kernel_rfl) (by kernel_rfl) (by kernel_rfl) (fun _ _ _ h=>h) (Or.inl ⟨by rfl,?_⟩) (by assumption) ?_;rotate_left;(focus (intro w' hSw;(try dsimp only at hSw);go_simp;(try with_reducible rfl)));(try rotate_left);(try simp only [Act.put,List.setIfInBounds_toArray,List.set_cons_zero,List.set_cons_succ])
            refine wpAnyH_ready (rs:=[14]) (by kernel_rfl) (by simp) ?_
            refine AllReadyH.cons (o:=⟨none,_,_,_,_,_⟩) rfl (fun K hK=>?_) AllReadyH.nil
            go_simp
            refine hK.out _ _ (sOf.out _ (by exact zB)) (fun hS14=>?_)
            clear hK
            (try simp only [Act.put,List.setIfInBounds_toArray,List.set_cons_zero,List.set_cons_succ])
            refine wpAnyH_ready (rs:=[15]) (by kernel_rfl) (by simp) ?_
            refine AllReadyH.cons (o:=⟨none,_,_,_,_,_⟩) rfl (fun K hK=>?_) AllReadyH.nil
            go_simp
            refine hK.out _ _ (sOf.out _ (by exact zB)) (fun hS15=>?_)
            clear hK
            (try simp only [Act.put,List.setIfInBounds_toArray,List.set_cons_zero,List.set_cons_succ])
            refine wpAnyH_take (i:=16) (oi:=⟨some 10,_,_,_,_,_⟩) (v:=?_) rfl (by kernel_rfl) (by kernel_rfl) (by kernel_rfl) (fun _ _ _ h=>h) (Or.inl ⟨by rfl,?_⟩) (by assumption) ?_;rotate_left;(focus (intro w' hSw;(try dsimp only at hSw);go_simp;(try with_reducible rfl)));(try rotate_left);(try simp only [Act.put,List.setIfInBounds_toArray,List.set_cons_zero,List.set_cons_succ])
            refine wpAnyH_done (by kernel_rfl) ?_ _
            go_wp2_with fail
            go_meet
            refine ⟨_,_,ya,yb,yp,yq,rfl,rfl,rfl,?_,?_,?_,?_,by exact zB,by (try simp) <;> omega,by (try simp) <;> omega⟩
            · simp [go_sem, *] <;> rfl
            · simp [go_sem, *] <;> rfl
            · (repeat first|with_reducible exact oY1|with_reducible refine oAl ?_ _|with_reducible refine oDr ?_|((with_reducible first|refine own_store ?_ ?_ _|refine own_box ?_ ?_);rotate_left;focus first|(refine own_ne oY1 ?_;(try dsimp only);omega)|(refine own_ne' oY1 ?_;(try dsimp only);omega)|exact (by assumption)))
            · (repeat first|with_reducible exact oY2|with_reducible refine oAl ?_ _|with_reducible refine oDr ?_|((with_reducible first|refine own_store ?_ ?_ _|refine own_box ?_ ?_);rotate_left;focus first|(refine own_ne oY2 ?_;(try dsimp only);omega)|(refine own_ne' oY2 ?_;(try dsimp only);omega)|exact (by assumption)))
      · skip
        go_simp
        refine hK.out _ _ (sOf.out _ (by exact zB)) (fun hS12=>?_)
        clear hK
        (try simp only [Act.put,List.setIfInBounds_toArray,List.set_cons_zero,List.set_cons_succ])
        refine wpAnyH_ready (rs:=[5]) (by kernel_rfl) (by simp) ?_
        refine AllReadyH.cons (o:=⟨some 50,_,_,_,_,_⟩) rfl (fun K hK=>?_) AllReadyH.nil
        · skip
          go_simp
          go_at_call 16
          refine (iCopied_any c a b p q _ ((H1.out.below (by exact zB)).more (by (try simp) <;> omega)) Z1.out ((H2.out.below (by exact zB)).more (by (try simp) <;> omega)) Z2.out m1 m2).mono ?_
          rintro _ w5 ⟨⟨v1,v2,rfl,o1,o2⟩,hb5⟩
          have hX5:Below w4.heap.size w4 w5:=bT (by exact zB) hb5
          have hz5:=hb5.size
          (try simp at hz5)
          (try simp at o1 o2)
          have b1:=fun j (hj:v1.ownBlock=some j)=>o1.lt j hj
          have b2:=fun j (hj:v2.ownBlock=some j)=>o2.lt j hj
          obtain ⟨va,vp,rfl,_⟩:=o1.seg
          obtain ⟨vb,vq,rfl,_⟩:=o2.seg
          have q1:=own_lo (lo':=w.heap.size+1+1+1+1) o1 (by omega)
          have q2:=own_lo (lo':=w.heap.size+1+1+1+1) o2 (by omega)
          have t13:=hpB hb5 (b:=w4.heap.size) (by (try simp) <;> omega)
          simp [go_sem] at t13
          have n13:=(bO t13).2.2
          have t12:=hpB hb5 (b:=w4.heap.size+1) (by (try simp) <;> omega)
          simp [go_sem] at t12
          have n12:=(bO t12).2.2
          have m13:w4.heap.size<w5.heap.size:=by omega
          have m12:w4.heap.size+1<w5.heap.size:=by omega
          clear hb5
          refine hK.out _ _ (sOf.out _ hX5) (fun hS5=>?_)
          clear hK
          (try simp only [Act.put,List.setIfInBounds_toArray,List.set_cons_zero,List.set_cons_succ])
          refine wpAnyH_ready (rs:=[7]) (by kernel_rfl) (by simp) ?_
          refine AllReadyH.cons (o:=⟨some 52,_,_,_,_,_⟩) rfl (fun K hK=>?_) AllReadyH.nil
          · skip
            go_simp
            refine (HFF.out _ _ (w.heap.size+1+1+1+1) _ (by exact zO q1 o1) (by exact zO q2 o2) (by (try simp) <;> omega)).mono ?_
            rintro _ w6 ⟨⟨y1,y2,rfl,oY1,oY2,fY1,fY2⟩,hO⟩
            have hz6:=hO.2.2.2.1
            (try simp at hz6)
            have hX6:Below w4.heap.size w4 w6:=bOnl (by exact zB) hO (fun j hj=>by have:=(b1 j hj).1;omega) (fun j hj=>by have:=(b2 j hj).1;omega)
            have zz:=onlHp hO (i:=w4.heap.size) (by (try simp) <;> omega) (fun e=>by have:=b1 _ e.symm;omega) (fun e=>by have:=b2 _ e.symm;omega)
            simp [go_sem,t13,n13] at zz
            (try clear t13 n13)
            have t13:=zz
            clear zz
            have n13:=(bO t13).2.2
            have ya13:y1.ownBlock≠some (w4.heap.size):=(fun e=>by rcases fY1 _ e with g1|g1;(have:=b1 _ g1;omega);((try simp at g1);omega))
            have yb13:y2.ownBlock≠some (w4.heap.size):=(fun e=>by rcases fY2 _ e with g1|g1;(have:=b2 _ g1;omega);((try simp at g1);omega))
            have zz:=onlHp hO (i:=w4.heap.size+1) (by (try simp) <;> omega) (fun e=>by have:=b1 _ e.symm;omega) (fun e=>by have:=b2 _ e.symm;omega)
            simp [go_sem,t12,n12] at zz
            (try clear t12 n12)
            have t12:=zz
            clear zz
            have n12:=(bO t12).2.2
            have ya12:y1.ownBlock≠some (w4.heap.size+1):=(fun e=>by rcases fY1 _ e with g1|g1;(have:=b1 _ g1;omega);((try simp at g1);omega))
            have yb12:y2.ownBlock≠some (w4.heap.size+1):=(fun e=>by rcases fY2 _ e with g1|g1;(have:=b2 _ g1;omega);((try simp at g1);omega))
            obtain ⟨ya,yp,rfl,_⟩:=oY1.seg
            obtain ⟨yb,yq,rfl,_⟩:=oY2.seg
            clear b1 b2 o1 o2 q1 q2 fY1 fY2 hO
            refine hK.out _ _ (sOf.out _ hX6) (fun hS7=>?_)
            clear hK hX5
            (try simp only [Act.put,List.setIfInBounds_toArray,List.set_cons_zero,List.set_cons_succ])
            refine wpAnyH_take (i:=8) (oi:=⟨some 44,_,_,_,_,_⟩) (v:=?_) rfl (by kernel_rfl) (by kernel_rfl) (by kernel_rfl) (fun _ _ _ h=>h) (Or.inl ⟨by rfl,?_⟩) (by assumption) ?_;rotate_left;(focus (intro w' hSw;(try dsimp only at hSw);go_simp;(try with_reducible rfl)));(try rotate_left);(try simp only [Act.put,List.setIfInBounds_toArray,List.set_cons_zero,List.set_cons_succ])
            refine wpAnyH_take (i:=9) (oi:=⟨some 53,_,_,_,_,_⟩) (v:=?_) rfl (by kernel_rfl) (by kernel_rfl) (by kernel_rfl) (fun _ _ _ h=>h) (Or.inl ⟨by rfl,?_⟩) (by assumption) ?_;rotate_left;(focus (intro w' hSw;(try dsimp only at hSw);go_simp;(try with_reducible rfl)));(try rotate_left);(try simp only [Act.put,List.setIfInBounds_toArray,List.set_cons_zero,List.set_cons_succ])
            refine wpAnyH_take (i:=10) (oi:=⟨some 54,_,_,_,_,_⟩) (v:=?_) rfl (by kernel_rfl) (by kernel_rfl) (by kernel_rfl) (fun _ _ _ h=>h) (Or.inl ⟨by rfl,?_⟩) (by assumption) ?_;rotate_left;(focus (intro w' hSw;(try dsimp only at hSw);go_simp;(try with_reducible rfl)));(try rotate_left);(try simp only [Act.put,List.setIfInBounds_toArray,List.set_cons_zero,List.set_cons_succ])
            refine wpAnyH_take (i:=11) (oi:=⟨some 55,_,_,_,_,_⟩) (v:=?_) rfl (by kernel_rfl) (by kernel_rfl) (by kernel_rfl) (fun _ _ _ h=>h) (Or.inl ⟨by rfl,?_⟩) (by assumption) ?_;rotate_left;(focus (intro w' hSw;(try dsimp only at hSw);go_simp;(try with_reducible rfl)));(try rotate_left);(try simp only [Act.put,List.setIfInBounds_toArray,List.set_cons_zero,List.set_cons_succ])
            refine wpAnyH_ready (rs:=[14]) (by kernel_rfl) (by simp) ?_
            refine AllReadyH.cons (o:=⟨none,_,_,_,_,_⟩) rfl (fun K hK=>?_) AllReadyH.nil
            go_simp
            refine hK.out _ _ (sOf.out _ (by exact zB)) (fun hS14=>?_)
            clear hK
            (try simp only [Act.put,List.setIfInBounds_toArray,List.set_cons_zero,List.set_cons_succ])
            refine wpAnyH_ready (rs:=[15]) (by kernel_rfl) (by simp) ?_
            refine AllReadyH.cons (o:=⟨none,_,_,_,_,_⟩) rfl (fun K hK=>?_) AllReadyH.nil
            go_simp
            refine hK.out _ _ (sOf.out _ (by exact zB)) (fun hS15=>?_)
            clear hK
            (try simp only [Act.put,List.setIfInBounds_toArray,List.set_cons_zero,List.set_cons_succ])
            refine wpAnyH_take (i:=16) (oi:=⟨some 10,_,_,_,_,_⟩) (v:=?_) rfl (by kernel_rfl) (by kernel_rfl) (by kernel_rfl) (fun _ _ _ h=>h) (Or.inl ⟨by rfl,?_⟩) (by assumption) ?_;rotate_left;(focus (intro w' hSw;(try dsimp only at hSw);go_simp;(try with_reducible rfl)));(try rotate_left);(try simp only [Act.put,List.setIfInBounds_toArray,List.set_cons_zero,List.set_cons_succ])
            refine wpAnyH_done (by kernel_rfl) ?_ _
            go_wp2_with fail
            go_meet
            refine ⟨_,_,ya,yb,yp,yq,rfl,rfl,rfl,?_,?_,?_,?_,by exact zB,by (try simp) <;> omega,by (try simp) <;> omega⟩
            · simp [go_sem, *] <;> rfl
            · simp [go_sem, *] <;> rfl
            · (repeat first|with_reducible exact oY1|with_reducible refine oAl ?_ _|with_reducible refine oDr ?_|((with_reducible first|refine own_store ?_ ?_ _|refine own_box ?_ ?_);rotate_left;focus first|(refine own_ne oY1 ?_;(try dsimp only);omega)|(refine own_ne' oY1 ?_;(try dsimp only);omega)|exact (by assumption)))
            · (repeat first|with_reducible exact oY2|with_reducible refine oAl ?_ _|with_reducible refine oDr ?_|((with_reducible first|refine own_store ?_ ?_ _|refine own_box ?_ ?_);rotate_left;focus first|(refine own_ne oY2 ?_;(try dsimp only);omega)|(refine own_ne' oY2 ?_;(try dsimp only);omega)|exact (by assumption)))
  case rest =>
    obtain ⟨gc,gh,ya,yb,yp,yq,rfl,rfl,rfl,z_gc,z_gh,oX1,oX2,hX,hgc,hgh⟩:=hcut
    obtain ⟨w8,hw⟩:∃ x,x=wc:=⟨_,rfl⟩
    rw [← hw] at z_gc z_gh oX1 oX2 hX ⊢
    clear hw
    obtain ⟨z_wpp,z_wppp,hCw8⟩:=eOf.out w8 hX
    have hz8:=hX.size
    have hg0:w.heap.size+1+1<gc:=by omega
    have hg1:w.heap.size+1+1+1<gc:=by omega
    have hg2:w.heap.size+1+1<gh:=by omega
    have hg3:w.heap.size+1+1+1<gh:=by omega
    clear sOf eOf hX HFF hR4
    obtain ⟨c2,h2,ok⟩:=x
    dsimp only at z_gc z_gh oX1 oX2 ⊢
    obtain ⟨x_gc,f_gc,l_gc⟩:=bO z_gc
    obtain ⟨x_gh,f_gh,l_gh⟩:=bO z_gh
    obtain ⟨x_wpp,f_wpp,l_wpp⟩:=bO z_wpp
    obtain ⟨x_wppp,f_wppp,l_wppp⟩:=bO z_wppp
    have L1:=own_max oX1
    have L2:=own_max oX2
    obtain ⟨_,_,e1,G1⟩:=oX1.seg
    obtain ⟨_,_,e2,G2⟩:=oX2.seg
    simp only [Value.slice.injEq,true_and] at e1 e2
    obtain ⟨rfl,rfl⟩:=e1
    obtain ⟨rfl,rfl⟩:=e2
    have K1:=Lib.hid G1
    have K2:=Lib.hid G2
    clear G1 G2
    have T:=Lib.hid fun W=>refused_any W w.heap.size (.slice none 0 0) (.slice none 0 0)
    have d1:∀ j,(Value.slice none 0 0).ownBlock=some j→w.heap.size+1+1+1+1≤j:=fun j hj=>by cases hj
    have d2:=d1
    cases ok with
    | false =>
      have E:X=nothing:=hXe.trans rfl
      rw [← E] at T
      clear E hXe
      go_wp2_with fail
      refine (T.out _).mono ?_
      rintro _ w11 ⟨⟨y1,y2,rfl,oY1,oY2,fY1,fY2⟩,hbw11⟩
      have hCw11:Below w.heap.size w w11:=bT (by exact zB) hbw11
      have hsw11:=hbw11.size;(try (simp at hsw11));have zz:=hQ hbw11 (b:=w.heap.size+1+1);(first|(simp [go_sem,z_wpp,l_wpp] at zz)|(simp [go_sem] at zz));(try clear x_wpp f_wpp);(try clear z_wpp);have z_wpp:=zz;clear zz;(try clear l_wpp);obtain ⟨x_wpp,f_wpp,l_wpp⟩:=bO z_wpp;have zz:=hQ hbw11 (b:=w.heap.size+1+1+1);(first|(simp [go_sem,z_wppp,l_wppp] at zz)|(simp [go_sem] at zz));(try clear x_wppp f_wppp);(try clear z_wppp);have z_wppp:=zz;clear zz;(try clear l_wppp);obtain ⟨x_wppp,f_wppp,l_wppp⟩:=bO z_wppp
      have hoff1:∀ j,w.heap.size≤j→j<w.heap.size+1+1+1+1→y1.ownBlock≠some j:=fun j _ h2=>fY1.off2 d1 h2 (by (try simp) <;> omega);have hoff2:∀ j,w.heap.size≤j→j<w.heap.size+1+1+1+1→y2.ownBlock≠some j:=fun j _ h2=>fY2.off2 d2 h2 (by (try simp) <;> omega);have fr1:Fresh w (.slice none 0 0) y1:=fun j hj=>.inr (fY1.up d1 (by (try simp) <;> omega) (by (try simp) <;> omega) j hj);have fr2:Fresh w (.slice none 0 0) y2:=fun j hj=>.inr (fY2.up d2 (by (try simp) <;> omega) (by (try simp) <;> omega) j hj);obtain ⟨ya,yp,rfl,_⟩:=oY1.seg;obtain ⟨yb,yq,rfl,_⟩:=oY2.seg
      go_wp2
      refine bodyPost_ret (res_cct Tryz.results6 rfl (ldChan X.1 (.slice ya X.1.cells.length yp) (.slice yb X.1.words.length yq) (by simp [go_sem, *])) rfl (ldHand X.2.1 (by simp [go_sem, *]))) rfl ⟨⟨_,_,rfl,?_,?_,fr1,fr2⟩,by exact zB⟩
      · exact zP oY1 oY1 hoff1
      · exact zP oY2 oY2 hoff2
    | true =>
      cases hc2:chanOk c2 with
      | false =>
        have E:X=nothing:=hXe.trans (by simp [fin6,done_no1 hc2])
        rw [← E] at T
        clear E hXe
        go_wp2_with fail
        refine (iChanOk_any c2 ya yb yp yq _ ((K1.out.below (by exact zB)).more (by (try simp) <;> omega)) ((K2.out.below (by exact zB)).more (by (try simp) <;> omega)) L1 L2).mono ?_
        rintro _ w9 ⟨rfl,hbw9⟩
        have hCw9:Below w.heap.size w w9:=bT (by exact zB) hbw9
        have hKw9:Below w8.heap.size w8 w9:=bT (by exact zB) hbw9
        have hsw9:=hbw9.size;(try (simp at hsw9));have zz:=hQ hbw9 (b:=gc);(first|(simp [go_sem,z_gc,l_gc] at zz)|(simp [go_sem] at zz));(try clear x_gc f_gc);(try clear z_gc);have z_gc:=zz;clear zz;(try clear l_gc);obtain ⟨x_gc,f_gc,l_gc⟩:=bO z_gc;have zz:=hQ hbw9 (b:=gh);(first|(simp [go_sem,z_gh,l_gh] at zz)|(simp [go_sem] at zz));(try clear x_gh f_gh);(try clear z_gh);have z_gh:=zz;clear zz;(try clear l_gh);obtain ⟨x_gh,f_gh,l_gh⟩:=bO z_gh;have zz:=hQ hbw9 (b:=w.heap.size+1+1);(first|(simp [go_sem,z_wpp,l_wpp] at zz)|(simp [go_sem] at zz));(try clear x_wpp f_wpp);(try clear z_wpp);have z_wpp:=zz;clear zz;(try clear l_wpp);obtain ⟨x_wpp,f_wpp,l_wpp⟩:=bO z_wpp;have zz:=hQ hbw9 (b:=w.heap.size+1+1+1);(first|(simp [go_sem,z_wppp,l_wppp] at zz)|(simp [go_sem] at zz));(try clear x_wppp f_wppp);(try clear z_wppp);have z_wppp:=zz;clear zz;(try clear l_wppp);obtain ⟨x_wppp,f_wppp,l_wppp⟩:=bO z_wppp
        rw [hc2]
        go_wp2_with fail
        refine (T.out _).mono ?_
        rintro _ w11 ⟨⟨y1,y2,rfl,oY1,oY2,fY1,fY2⟩,hbw11⟩
        have hCw11:Below w.heap.size w w11:=bT (by exact zB) hbw11
        have hsw11:=hbw11.size;(try (simp at hsw11));have zz:=hQ hbw11 (b:=w.heap.size+1+1);(first|(simp [go_sem,z_wpp,l_wpp] at zz)|(simp [go_sem] at zz));(try clear x_wpp f_wpp);(try clear z_wpp);have z_wpp:=zz;clear zz;(try clear l_wpp);obtain ⟨x_wpp,f_wpp,l_wpp⟩:=bO z_wpp;have zz:=hQ hbw11 (b:=w.heap.size+1+1+1);(first|(simp [go_sem,z_wppp,l_wppp] at zz)|(simp [go_sem] at zz));(try clear x_wppp f_wppp);(try clear z_wppp);have z_wppp:=zz;clear zz;(try clear l_wppp);obtain ⟨x_wppp,f_wppp,l_wppp⟩:=bO z_wppp
        have hoff1:∀ j,w.heap.size≤j→j<w.heap.size+1+1+1+1→y1.ownBlock≠some j:=fun j _ h2=>fY1.off2 d1 h2 (by (try simp) <;> omega);have hoff2:∀ j,w.heap.size≤j→j<w.heap.size+1+1+1+1→y2.ownBlock≠some j:=fun j _ h2=>fY2.off2 d2 h2 (by (try simp) <;> omega);have fr1:Fresh w (.slice none 0 0) y1:=fun j hj=>.inr (fY1.up d1 (by (try simp) <;> omega) (by (try simp) <;> omega) j hj);have fr2:Fresh w (.slice none 0 0) y2:=fun j hj=>.inr (fY2.up d2 (by (try simp) <;> omega) (by (try simp) <;> omega) j hj);obtain ⟨ya,yp,rfl,_⟩:=oY1.seg;obtain ⟨yb,yq,rfl,_⟩:=oY2.seg
        go_wp2
        refine bodyPost_ret (res_cct Tryz.results6 rfl (ldChan X.1 (.slice ya X.1.cells.length yp) (.slice yb X.1.words.length yq) (by simp [go_sem, *])) rfl (ldHand X.2.1 (by simp [go_sem, *]))) rfl ⟨⟨_,_,rfl,?_,?_,fr1,fr2⟩,by exact zB⟩
        · exact zP oY1 oY1 hoff1
        · exact zP oY2 oY2 hoff2
      | true =>
        cases hh2:handOk h2 with
        | false =>
          have E:X=nothing:=hXe.trans (by simp [fin6,done_no2 hh2])
          rw [← E] at T
          clear E hXe
          go_wp2_with fail
          refine (iChanOk_any c2 ya yb yp yq _ ((K1.out.below (by exact zB)).more (by (try simp) <;> omega)) ((K2.out.below (by exact zB)).more (by (try simp) <;> omega)) L1 L2).mono ?_
          rintro _ w9 ⟨rfl,hbw9⟩
          have hCw9:Below w.heap.size w w9:=bT (by exact zB) hbw9
          have hKw9:Below w8.heap.size w8 w9:=bT (by exact zB) hbw9
          have hsw9:=hbw9.size;(try (simp at hsw9));have zz:=hQ hbw9 (b:=gc);(first|(simp [go_sem,z_gc,l_gc] at zz)|(simp [go_sem] at zz));(try clear x_gc f_gc);(try clear z_gc);have z_gc:=zz;clear zz;(try clear l_gc);obtain ⟨x_gc,f_gc,l_gc⟩:=bO z_gc;have zz:=hQ hbw9 (b:=gh);(first|(simp [go_sem,z_gh,l_gh] at zz)|(simp [go_sem] at zz));(try clear x_gh f_gh);(try clear z_gh);have z_gh:=zz;clear zz;(try clear l_gh);obtain ⟨x_gh,f_gh,l_gh⟩:=bO z_gh;have zz:=hQ hbw9 (b:=w.heap.size+1+1);(first|(simp [go_sem,z_wpp,l_wpp] at zz)|(simp [go_sem] at zz));(try clear x_wpp f_wpp);(try clear z_wpp);have z_wpp:=zz;clear zz;(try clear l_wpp);obtain ⟨x_wpp,f_wpp,l_wpp⟩:=bO z_wpp;have zz:=hQ hbw9 (b:=w.heap.size+1+1+1);(first|(simp [go_sem,z_wppp,l_wppp] at zz)|(simp [go_sem] at zz));(try clear x_wppp f_wppp);(try clear z_wppp);have z_wppp:=zz;clear zz;(try clear l_wppp);obtain ⟨x_wppp,f_wppp,l_wppp⟩:=bO z_wppp
          rw [hc2]
          go_wp2_with fail
          refine (handOk_any h2 _).mono ?_
          rintro _ w10 ⟨rfl,hbw10⟩
          have hCw10:Below w.heap.size w w10:=bT (by exact zB) hbw10
          have hKw10:Below w8.heap.size w8 w10:=bT (by exact zB) hbw10
          have hsw10:=hbw10.size;(try (simp at hsw10));have zz:=hQ hbw10 (b:=gc);(first|(simp [go_sem,z_gc,l_gc] at zz)|(simp [go_sem] at zz));(try clear x_gc f_gc);(try clear z_gc);have z_gc:=zz;clear zz;(try clear l_gc);obtain ⟨x_gc,f_gc,l_gc⟩:=bO z_gc;have zz:=hQ hbw10 (b:=gh);(first|(simp [go_sem,z_gh,l_gh] at zz)|(simp [go_sem] at zz));(try clear x_gh f_gh);(try clear z_gh);have z_gh:=zz;clear zz;(try clear l_gh);obtain ⟨x_gh,f_gh,l_gh⟩:=bO z_gh;have zz:=hQ hbw10 (b:=w.heap.size+1+1);(first|(simp [go_sem,z_wpp,l_wpp] at zz)|(simp [go_sem] at zz));(try clear x_wpp f_wpp);(try clear z_wpp);have z_wpp:=zz;clear zz;(try clear l_wpp);obtain ⟨x_wpp,f_wpp,l_wpp⟩:=bO z_wpp;have zz:=hQ hbw10 (b:=w.heap.size+1+1+1);(first|(simp [go_sem,z_wppp,l_wppp] at zz)|(simp [go_sem] at zz));(try clear x_wppp f_wppp);(try clear z_wppp);have z_wppp:=zz;clear zz;(try clear l_wppp);obtain ⟨x_wppp,f_wppp,l_wppp⟩:=bO z_wppp
          rw [hh2]
          have r1:=own_below oX1 hKw10
          have r2:=own_below oX2 hKw10
          go_wp2_with fail
          refine (T.out _).mono ?_
          rintro _ w11 ⟨⟨y1,y2,rfl,oY1,oY2,fY1,fY2⟩,hbw11⟩
          have hCw11:Below w.heap.size w w11:=bT (by exact zB) hbw11
          have hsw11:=hbw11.size;(try (simp at hsw11));have zz:=hQ hbw11 (b:=w.heap.size+1+1);(first|(simp [go_sem,z_wpp,l_wpp] at zz)|(simp [go_sem] at zz));(try clear x_wpp f_wpp);(try clear z_wpp);have z_wpp:=zz;clear zz;(try clear l_wpp);obtain ⟨x_wpp,f_wpp,l_wpp⟩:=bO z_wpp;have zz:=hQ hbw11 (b:=w.heap.size+1+1+1);(first|(simp [go_sem,z_wppp,l_wppp] at zz)|(simp [go_sem] at zz));(try clear x_wppp f_wppp);(try clear z_wppp);have z_wppp:=zz;clear zz;(try clear l_wppp);obtain ⟨x_wppp,f_wppp,l_wppp⟩:=bO z_wppp
          have hoff1:∀ j,w.heap.size≤j→j<w.heap.size+1+1+1+1→y1.ownBlock≠some j:=fun j _ h2=>fY1.off2 d1 h2 (by (try simp) <;> omega);have hoff2:∀ j,w.heap.size≤j→j<w.heap.size+1+1+1+1→y2.ownBlock≠some j:=fun j _ h2=>fY2.off2 d2 h2 (by (try simp) <;> omega);have fr1:Fresh w (.slice none 0 0) y1:=fun j hj=>.inr (fY1.up d1 (by (try simp) <;> omega) (by (try simp) <;> omega) j hj);have fr2:Fresh w (.slice none 0 0) y2:=fun j hj=>.inr (fY2.up d2 (by (try simp) <;> omega) (by (try simp) <;> omega) j hj);obtain ⟨ya,yp,rfl,_⟩:=oY1.seg;obtain ⟨yb,yq,rfl,_⟩:=oY2.seg
          go_wp2
          refine bodyPost_ret (res_cct Tryz.results6 rfl (ldChan X.1 (.slice ya X.1.cells.length yp) (.slice yb X.1.words.length yq) (by simp [go_sem, *])) rfl (ldHand X.2.1 (by simp [go_sem, *]))) rfl ⟨⟨_,_,rfl,?_,?_,fr1,fr2⟩,by exact zB⟩
          · exact zP oY1 oY1 hoff1
          · exact zP oY2 oY2 hoff2
        | true =>
          have E:=Lib.hid (hXe.trans (show fin6 (c2,h2,true)=(c2,h2,true) by simp [fin6,done_yes hc2 hh2]))
          clear hXe
          go_wp2_with fail
          refine (iChanOk_any c2 ya yb yp yq _ ((K1.out.below (by exact zB)).more (by (try simp) <;> omega)) ((K2.out.below (by exact zB)).more (by (try simp) <;> omega)) L1 L2).mono ?_
          rintro _ w9 ⟨rfl,hbw9⟩
          have hCw9:Below w.heap.size w w9:=bT (by exact zB) hbw9
          have hKw9:Below w8.heap.size w8 w9:=bT (by exact zB) hbw9
          have hsw9:=hbw9.size;(try (simp at hsw9));have zz:=hQ hbw9 (b:=gc);(first|(simp [go_sem,z_gc,l_gc] at zz)|(simp [go_sem] at zz));(try clear x_gc f_gc);(try clear z_gc);have z_gc:=zz;clear zz;(try clear l_gc);obtain ⟨x_gc,f_gc,l_gc⟩:=bO z_gc;have zz:=hQ hbw9 (b:=gh);(first|(simp [go_sem,z_gh,l_gh] at zz)|(simp [go_sem] at zz));(try clear x_gh f_gh);(try clear z_gh);have z_gh:=zz;clear zz;(try clear l_gh);obtain ⟨x_gh,f_gh,l_gh⟩:=bO z_gh;have zz:=hQ hbw9 (b:=w.heap.size+1+1);(first|(simp [go_sem,z_wpp,l_wpp] at zz)|(simp [go_sem] at zz));(try clear x_wpp f_wpp);(try clear z_wpp);have z_wpp:=zz;clear zz;(try clear l_wpp);obtain ⟨x_wpp,f_wpp,l_wpp⟩:=bO z_wpp;have zz:=hQ hbw9 (b:=w.heap.size+1+1+1);(first|(simp [go_sem,z_wppp,l_wppp] at zz)|(simp [go_sem] at zz));(try clear x_wppp f_wppp);(try clear z_wppp);have z_wppp:=zz;clear zz;(try clear l_wppp);obtain ⟨x_wppp,f_wppp,l_wppp⟩:=bO z_wppp
          rw [hc2]
          go_wp2_with fail
          refine (handOk_any h2 _).mono ?_
          rintro _ w10 ⟨rfl,hbw10⟩
          have hCw10:Below w.heap.size w w10:=bT (by exact zB) hbw10
          have hKw10:Below w8.heap.size w8 w10:=bT (by exact zB) hbw10
          have hsw10:=hbw10.size;(try (simp at hsw10));have zz:=hQ hbw10 (b:=gc);(first|(simp [go_sem,z_gc,l_gc] at zz)|(simp [go_sem] at zz));(try clear x_gc f_gc);(try clear z_gc);have z_gc:=zz;clear zz;(try clear l_gc);obtain ⟨x_gc,f_gc,l_gc⟩:=bO z_gc;have zz:=hQ hbw10 (b:=gh);(first|(simp [go_sem,z_gh,l_gh] at zz)|(simp [go_sem] at zz));(try clear x_gh f_gh);(try clear z_gh);have z_gh:=zz;clear zz;(try clear l_gh);obtain ⟨x_gh,f_gh,l_gh⟩:=bO z_gh;have zz:=hQ hbw10 (b:=w.heap.size+1+1);(first|(simp [go_sem,z_wpp,l_wpp] at zz)|(simp [go_sem] at zz));(try clear x_wpp f_wpp);(try clear z_wpp);have z_wpp:=zz;clear zz;(try clear l_wpp);obtain ⟨x_wpp,f_wpp,l_wpp⟩:=bO z_wpp;have zz:=hQ hbw10 (b:=w.heap.size+1+1+1);(first|(simp [go_sem,z_wppp,l_wppp] at zz)|(simp [go_sem] at zz));(try clear x_wppp f_wppp);(try clear z_wppp);have z_wppp:=zz;clear zz;(try clear l_wppp);obtain ⟨x_wppp,f_wppp,l_wppp⟩:=bO z_wppp
          rw [hh2]
          have r1:=own_below oX1 hKw10
          have r2:=own_below oX2 hKw10
          go_wp2_with fail
          go_region
          go_wp2
          refine bodyPost_ret (res_cct Tryz.results6 rfl (ldChan c2 (.slice ya c2.cells.length yp) (.slice yb c2.words.length yq) (by simp [go_sem, *])) rfl (ldHand h2 (by simp [go_sem, *]))) rfl ⟨⟨.slice ya c2.cells.length yp,.slice yb c2.words.length yq,by rw [E.out];rfl,?_,?_,fun j hj=>.inr (by have:=(oX1.lt j hj).1;omega),fun j hj=>.inr (by have:=(oX2.lt j hj).1;omega)⟩,by exact zB⟩
          · rw [E.out]
            refine own_lo (lo:=w.heap.size+1+1+1+1) ?_ (by omega)
            exact zO r1 oX1
          · rw [E.out]
            refine own_lo (lo:=w.heap.size+1+1+1+1) ?_ (by omega)
            exact zO r2 oX2
end Go.Proofs.YthdjlpkcmhajlaaGreat
