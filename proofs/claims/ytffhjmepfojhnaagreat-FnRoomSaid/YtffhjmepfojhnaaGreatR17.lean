/-
  The program's waiting to send and its calling, by what they hand on; on hands and channels that are kept whole; the lists are the call's own.
-/
import Derived.Test.YtffhjmepfojhnaaGreatR04
import Derived.Test.YtffhjmepfojhnaaGreatR16
import Derived.Test.YtffhjmepfojhnaaGreatR13
import Derived.Test.YtffhjmepfojhnaaGreatR11
import Derived.Test.YtffhjmepfojhnaaGreatR01
set_option maxRecDepth 100000
set_option maxHeartbeats 2000000
set_option linter.unusedSimpArgs false
set_option linter.unusedVariables false
namespace Go.Proofs.YtffhjmepfojhnaaGreat
section
open Go.RowKit
attribute [local simp] aC
attribute [local go_sem ↓] aB aU aL bB aM bC aG aN au aF
def nR (c:Ch) (h:Ha):St:=if bn c h.cell h.seen 2 0 then (aY c h.cell h.seen 2 0,aP 1 0,true) else (c,{ h with pos:=3 },true)
def MI (c:Ch) (h:Ha):St:=xH c 3 { h with pos:=23 } { h with pos:=3 }
def NH (c:Ch) (h:Ha):St:=zU c { h with pos:=8 } (anew h)
theorem oZ (c:Ch) (h:Ha) (v1 v2:Value) (lo:Nat) (w:World) (h1:ag w lo v1 c.cells) (h2:ai w lo v2 c.words) :
    (∀ (hc0:0≤h.cell) (hc1:h.cell<c.cells.length) (hc:aK c=true) (hlo:lo≤w.heap.size),Calls Tryz.prog 252 #[.agg (af c v1 v2),.agg (aa h)] w fun r w'=>cz w w' lo v1 v2 (MI c h) r) ∧
    (∀ (hc:aK c=true) (hlo:lo≤w.heap.size) (hk:dO h.code h.elem=true),Calls Tryz.prog 245 #[.agg (af c v1 v2),.agg (aa h)] w fun r w'=>cz w w' lo v1 v2 (NH c h) r):=by
  constructor
  case' left =>
    intro hc0 hc1 hc hlo
    have mA:Hid (0=0):=rfl
  case' right =>
    intro hc hlo hk
    have mB:Hid (0=0):=rfl
  all_goals
    first
    | (replace mA:=mA
       have T0:=fun W a b hl=>uB c 3 { h with pos:=23 } { h with pos:=3 } v1 v2 lo W a b hc0 hc1 hc hl
       change ∀ W,_→_→_→Calls _ _ _ _ (fun r w'=>StepB W w' lo v1 v2 (MI c h) r) at T0
       generalize MI c h=x at *)
    | (replace mB:=mB
       have T0:=fun W a b hl=>r9 c { h with pos:=8 } (anew h) v1 v2 lo W a b hc hl
       change ∀ W,_→_→_→Calls _ _ _ _ (fun r w'=>StepB W w' lo v1 v2 (NH c h) r) at T0
       generalize NH c h=x at *)
    obtain ⟨a1,q1,a2,q2,rfl,rfl,O1,O2,b1,b2⟩:=ql h1 h2
    clear h1 h2
    have T:=Lib.hid T0
    clear T0
    have o1:=O1.out
    have o2:=O2.out
    first
    | (replace mA:=mA;go_enter Tryz.func252,Tryz.ntmps252)
    | (replace mB:=mB;go_enter Tryz.func245,Tryz.ntmps245)
    go_upto_region 1 with fail
    first
    | (replace mA:=mA;refine bI [[],[],[1],[],[3],[0,1,2,3,4],[0,1,2,3,4,5],[0,1,2,3,4,5],[0,1,2,3,4,5],[0,1,2,3,4,5,6],[0,1,2,3,4,5,7],[0,1,2,3,4,5,8]] [7,8,9,10,11,12,13,14,15,6] (fun l s wx=>(Below w.heap.size w wx)∧(w.heap.size+1+1+1+1≤wx.heap.size)∧(hp wx w.heap.size=some (.cells (af c (.slice a1 c.cells.length q1) (.slice a2 c.words.length q2)) 31))∧(hp wx (w.heap.size+1)=some (.cells (aa h) 49))∧(hp wx (w.heap.size+1+1)=some (.cells (cond (l 9) (af x.1 (s 1003) (s 1004)) (af Ch.zero (.slice none 0 0) (.slice none 0 0))) 31))∧(hp wx (w.heap.size+1+1+1)=some (.cells (cond (l 10) (aa x.2.1) (aa Ha.zero)) 49))∧(ag wx lo (.slice a1 c.cells.length q1) c.cells)∧(ai wx lo (.slice a2 c.words.length q2) c.words)∧(l 0=true→s 7=.agg (af c (.slice a1 c.cells.length q1) (.slice a2 c.words.length q2)))∧(l 1=true→s 8=.agg (aa h))∧(l 2=true→s 9=.agg (aa ({ h with pos:=23 })))∧(l 3=true→s 10=.agg (aa h))∧(l 4=true→s 11=.agg (aa ({ h with pos:=3 })))∧(l 5=true→s 12=.tuple #[.agg (af x.1 (s 1003) (s 1004)),.agg (aa x.2.1),.bool x.2.2]∧ag wx lo (s 1003) x.1.cells∧ai wx lo (s 1004) x.1.words∧dW w (.slice a1 c.cells.length q1) (s 1003)∧dW w (.slice a2 c.words.length q2) (s 1004))∧(l 6=true→s 13=.agg (af x.1 (s 1003) (s 1004)))∧(l 7=true→s 14=.agg (aa x.2.1))∧(l 8=true→s 15=.bool x.2.2)∧(l 11=true→s 6=.bool x.2.2)) (by kernel_rfl) (by kernel_rfl) (by kernel_rfl) (fun s=>by (simp only [fill,fC,List.setIfInBounds_toArray,List.set_cons_zero,List.set_cons_succ];rfl)) (fun s=>⟨by exact zB,by simp,by simp [go_sem],by simp [go_sem],by simp [go_sem],by simp [go_sem],by exact zO o1 o1,by exact zO o2 o2,nB,nB,nB,nB,nB,nB,nB,nB,nB,nB⟩) ?_ ?_)
    | (replace mB:=mB;refine bI [[],[],[1],[],[3],[0,1,2,3,4],[0,1,2,3,4,5],[0,1,2,3,4,5],[0,1,2,3,4,5],[0,1,2,3,4,5,6],[0,1,2,3,4,5,7],[0,1,2,3,4,5,8]] [7,8,9,10,11,12,13,14,15,6] (fun l s wx=>(Below w.heap.size w wx)∧(w.heap.size+1+1+1+1≤wx.heap.size)∧(hp wx w.heap.size=some (.cells (af c (.slice a1 c.cells.length q1) (.slice a2 c.words.length q2)) 31))∧(hp wx (w.heap.size+1)=some (.cells (aa h) 49))∧(hp wx (w.heap.size+1+1)=some (.cells (cond (l 9) (af x.1 (s 1003) (s 1004)) (af Ch.zero (.slice none 0 0) (.slice none 0 0))) 31))∧(hp wx (w.heap.size+1+1+1)=some (.cells (cond (l 10) (aa x.2.1) (aa Ha.zero)) 49))∧(ag wx lo (.slice a1 c.cells.length q1) c.cells)∧(ai wx lo (.slice a2 c.words.length q2) c.words)∧(l 0=true→s 7=.agg (af c (.slice a1 c.cells.length q1) (.slice a2 c.words.length q2)))∧(l 1=true→s 8=.agg (aa h))∧(l 2=true→s 9=.agg (aa ({ h with pos:=8 })))∧(l 3=true→s 10=.agg (aa h))∧(l 4=true→s 11=.agg (aa (anew h)))∧(l 5=true→s 12=.tuple #[.agg (af x.1 (s 1003) (s 1004)),.agg (aa x.2.1),.bool x.2.2]∧ag wx lo (s 1003) x.1.cells∧ai wx lo (s 1004) x.1.words∧dW w (.slice a1 c.cells.length q1) (s 1003)∧dW w (.slice a2 c.words.length q2) (s 1004))∧(l 6=true→s 13=.agg (af x.1 (s 1003) (s 1004)))∧(l 7=true→s 14=.agg (aa x.2.1))∧(l 8=true→s 15=.bool x.2.2)∧(l 11=true→s 6=.bool x.2.2)) (by kernel_rfl) (by kernel_rfl) (by kernel_rfl) (fun s=>by (simp only [fill,fC,List.setIfInBounds_toArray,List.set_cons_zero,List.set_cons_succ];rfl)) (fun s=>⟨by exact zB,by simp,by simp [go_sem],by simp [go_sem],by simp [go_sem],by simp [go_sem],by exact zO o1 o1,by exact zO o2 o2,nB,nB,nB,nB,nB,nB,nB,nB,nB,nB⟩) ?_ ?_)
    refine ⟨?_,?_,?_,?_,?_,?_,?_,?_,?_,?_,?_,?_,trivial⟩;iterate 12 (intro l s wx hl hd hn hf K hK;rotate_left)
    · intro l s wx hall hf
      have hB:=hf.1
      have z1:=hf.2.2.2.2.1
      have z2:=(jC hf).2.1
      rw [hall 9 rfl] at z1
      rw [hall 10 rfl] at z2
      dsimp only [cond] at z1 z2
      obtain ⟨_,X1,X2,F1,F2⟩:=((jC (jD hf)).2.1 (hall 5 rfl))
      have ec:=((jE hf).2 (hall 11 rfl))
      simp only [ec]
      clear ec hf hall
      go_wp2
      first
      | (replace mA:=mA;exact bodyPost_ret (iV Tryz.results252 rfl (az x.1 _ _ z1) rfl (aj x.2.1 z2)) rfl ⟨⟨_,_,rfl,X1,X2,F1,F2⟩,dx hB⟩)
      | (replace mB:=mB;exact bodyPost_ret (iV Tryz.results245 rfl (az x.1 _ _ z1) rfl (aj x.2.1 z2)) rfl ⟨⟨_,_,rfl,X1,X2,F1,F2⟩,dx hB⟩)
    · have zc:=hf.out.2.2.1
      go_simp
      refine hK.out (upd s 7 (.agg (af c (.slice a1 c.cells.length q1) (.slice a2 c.words.length q2)))) _ _ (by simp [ae] <;> rfl) (kD (kX (fun _=>rfl) id) hf.out)
    · have zh:=hf.out.2.2.2.1
      go_simp
      refine hK.out (upd s 8 (.agg (aa h))) _ _ (by simp [ae] <;> rfl) (kD (kA (kX (fun _=>rfl) id)) hf.out)
    · have e1:=((jD hf.out).2.1 (hd 1 rfl))
      go_simp
      go_at_call 247
      first
      | (replace mA:=mA;refine (cZ h 23 _).mono ?_)
      | (replace mB:=mB;refine (cZ h 8 _).mono ?_)
      rintro _ wy ⟨rfl,hE⟩
      first
      | (replace mA:=mA;refine hK.out (upd s 9 (.agg (aa ({ h with pos:=23 })))) _ _ (by simp [ae,e1] <;> rfl) (kX (bT hf.out.1 hE) (kX (Nat.le_trans hf.out.2.1 (Below.size hE)) (kX (dS hf.out.2.2.1 hE) (kX (dS hf.out.2.2.2.1 hE) (kX (dS hf.out.2.2.2.2.1 hE) (kX (dS (jC hf.out).2.1 hE) (kX (own_below (jC hf.out).2.2.1 hE) (kX (own_below (jC hf.out).2.2.2.1 hE) (kB (kX (fun _=>rfl) (kB (kX (nU (hn 5 rfl)) (kX (nU (hn 6 rfl)) (kX (nU (hn 7 rfl)) (kX (nU (hn 8 rfl)) (fun _=>nU (hn 11 rfl)))))))))))))))) hf.out))
      | (replace mB:=mB;refine hK.out (upd s 9 (.agg (aa ({ h with pos:=8 })))) _ _ (by simp [ae,e1] <;> rfl) (kX (bT hf.out.1 hE) (kX (Nat.le_trans hf.out.2.1 (Below.size hE)) (kX (dS hf.out.2.2.1 hE) (kX (dS hf.out.2.2.2.1 hE) (kX (dS hf.out.2.2.2.2.1 hE) (kX (dS (jC hf.out).2.1 hE) (kX (own_below (jC hf.out).2.2.1 hE) (kX (own_below (jC hf.out).2.2.2.1 hE) (kB (kX (fun _=>rfl) (kB (kX (nU (hn 5 rfl)) (kX (nU (hn 6 rfl)) (kX (nU (hn 7 rfl)) (kX (nU (hn 8 rfl)) (fun _=>nU (hn 11 rfl)))))))))))))))) hf.out))
    · have zh:=hf.out.2.2.2.1
      go_simp
      refine hK.out (upd s 10 (.agg (aa h))) _ _ (by simp [ae] <;> rfl) (kD (kB (kA (kX (fun _=>rfl) id))) hf.out)
    · have e3:=((jD hf.out).2.2.2.1 (hd 3 rfl))
      go_simp
      first
      | (replace mA:=mA
         go_at_call 247
         refine (cZ h 3 _).mono ?_)
      | (replace mB:=mB
         go_at_call 250
         refine (oq h hk _).mono ?_)
      rintro _ wy ⟨rfl,hE⟩
      first
      | (replace mA:=mA;refine hK.out (upd s 11 (.agg (aa ({ h with pos:=3 })))) _ _ (by simp [ae,e3] <;> rfl) (kX (bT hf.out.1 hE) (kX (Nat.le_trans hf.out.2.1 (Below.size hE)) (kX (dS hf.out.2.2.1 hE) (kX (dS hf.out.2.2.2.1 hE) (kX (dS hf.out.2.2.2.2.1 hE) (kX (dS (jC hf.out).2.1 hE) (kX (own_below (jC hf.out).2.2.1 hE) (kX (own_below (jC hf.out).2.2.2.1 hE) (kC (kX (fun _=>rfl) (kX (nU (hn 5 rfl)) (kX (nU (hn 6 rfl)) (kX (nU (hn 7 rfl)) (kX (nU (hn 8 rfl)) (fun _=>nU (hn 11 rfl))))))))))))))) hf.out))
      | (replace mB:=mB;refine hK.out (upd s 11 (.agg (aa (anew h)))) _ _ (by simp [ae,e3] <;> rfl) (kX (bT hf.out.1 hE) (kX (Nat.le_trans hf.out.2.1 (Below.size hE)) (kX (dS hf.out.2.2.1 hE) (kX (dS hf.out.2.2.2.1 hE) (kX (dS hf.out.2.2.2.2.1 hE) (kX (dS (jC hf.out).2.1 hE) (kX (own_below (jC hf.out).2.2.1 hE) (kX (own_below (jC hf.out).2.2.2.1 hE) (kC (kX (fun _=>rfl) (kX (nU (hn 5 rfl)) (kX (nU (hn 6 rfl)) (kX (nU (hn 7 rfl)) (kX (nU (hn 8 rfl)) (fun _=>nU (hn 11 rfl))))))))))))))) hf.out))
    · have e0:=((jD hf.out).1 (hd 0 rfl))
      have e2:=((jD hf.out).2.2.1 (hd 2 rfl))
      have e4:=((jC (jD hf.out)).1 (hd 4 rfl))
      go_simp
      first
      | (replace mA:=mA;go_at_call 255)
      | (replace mB:=mB;go_at_call 253)
      refine (T.out _ (jC hf.out).2.2.1 (jC hf.out).2.2.2.1 (Nat.le_trans hlo (Below.size hf.out.1))).mono ?_
      rintro _ wy ⟨⟨y1,y2,rfl,X1,X2,F1,F2⟩,hE⟩
      refine hK.out (upd (upd (upd s 1003 (y1)) 1004 (y2)) 12 (.tuple #[.agg (af x.1 y1 y2),.agg (aa x.2.1),.bool x.2.2])) _ _ (by simp [ae,e0,e2,e4] <;> rfl) (kX (bT hf.out.1 hE) (kX (Nat.le_trans hf.out.2.1 (Below.size hE)) (kX (dS hf.out.2.2.1 hE) (kX (dS hf.out.2.2.2.1 hE) (kX (by (have ee:l 9=false:=hn 9 rfl);(have F:=hf.out.2.2.2.2.1);rw [ee] at F;rw [show upd l 5 true 9=false from ee];exact dS F hE) (kX (by (have ee:l 10=false:=hn 10 rfl);(have F:=(jC hf.out).2.1);rw [ee] at F;rw [show upd l 5 true 10=false from ee];exact dS F hE) (kX (own_below (jC hf.out).2.2.1 hE) (kX (own_below (jC hf.out).2.2.2.1 hE) (kC (kA (kX (fun _=>⟨rfl,X1,X2,fun j hj=>(F1 j hj).imp id (fun h=>Nat.le_trans (Below.size hf.out.1) h),fun j hj=>(F2 j hj).imp id (fun h=>Nat.le_trans (Below.size hf.out.1) h)⟩) (kX (nU (hn 6 rfl)) (kX (nU (hn 7 rfl)) (kX (nU (hn 8 rfl)) (fun _=>nU (hn 11 rfl))))))))))))))) hf.out)
    · have e5:=((jC (jD hf.out)).2.1 (hd 5 rfl)).1
      go_simp
      refine hK.out (upd s 13 (.agg (af x.1 (s 1003) (s 1004)))) _ _ (by simp [ae,e5] <;> rfl) (kD (kC (kB (kX (fun _=>rfl) id))) hf.out)
    · have e5:=((jC (jD hf.out)).2.1 (hd 5 rfl)).1
      go_simp
      refine hK.out (upd s 14 (.agg (aa x.2.1))) _ _ (by simp [ae,e5] <;> rfl) (kD (kC (kB (kA (kX (fun _=>rfl) id)))) hf.out)
    · have e5:=((jC (jD hf.out)).2.1 (hd 5 rfl)).1
      go_simp
      refine hK.out (upd s 15 (.bool x.2.2)) _ _ (by simp [ae,e5] <;> rfl) (kE (kX (fun _=>rfl) id) hf.out)
    · have e6:=((jC (jD hf.out)).2.2.1 (hd 6 rfl))
      have e5:=((jC (jD hf.out)).2.1 (hd 5 rfl))
      have X1:=e5.2.1
      have X2:=e5.2.2.1
      clear e5
      have zr:=hf.out.2.2.2.2.1
      rw [hl] at zr
      dsimp only [cond] at zr
      obtain ⟨xa,xp,ea,_⟩:=X1.seg
      obtain ⟨xb,xq,mq,_⟩:=X2.seg
      rw [ea,mq] at e6
      have zn:hp (bY wx (w.heap.size+1+1) (af x.1 (.slice xa x.1.cells.length xp) (.slice xb x.1.words.length xq))) (w.heap.size+1+1)=some (.cells (af x.1 (s 1003) (s 1004)) 31):=by rw [ea,mq];exact fH zr
      have hB:=hf.out.1
      go_simp
      refine hK.out (s) _ _ (by simp [ae,e6,ea,mq] <;> rfl) (kX (Fb hB tO) (kX (Nat.le_trans hf.out.2.1 (Nat.le_of_eq aC.symm)) (kX ((aD tO).trans hf.out.2.2.1) (kX ((aD tO).trans hf.out.2.2.2.1) (kX (zn) (kX ((aD tO).trans (jC hf.out).2.1) (kX (cO (jC hf.out).2.2.1 zr (by decide)) (kX (cO (jC hf.out).2.2.2.1 zr (by decide)) (kC (kA (kX (fun h=>(let ⟨e,X1,X2,F1,F2⟩:=(jC (jD hf.out)).2.1 h;⟨e,cO X1 zr (by decide),cO X2 zr (by decide),F1,F2⟩)) id)))))))))) hf.out)
    · have e7:=((jC (jD hf.out)).2.2.2.1 (hd 7 rfl))
      have e5:=((jC (jD hf.out)).2.1 (hd 5 rfl))
      have X1:=e5.2.1
      have X2:=e5.2.2.1
      clear e5
      have zr:=(jC hf.out).2.1
      rw [hl] at zr
      dsimp only [cond] at zr
      have zn:hp (bY wx (w.heap.size+1+1+1) (aa x.2.1)) (w.heap.size+1+1+1)=some (.cells (aa x.2.1) 49):=by exact fH zr
      have hB:=hf.out.1
      go_simp
      refine hK.out (s) _ _ (by simp [ae,e7] <;> rfl) (kX (Fb hB tO) (kX (Nat.le_trans hf.out.2.1 (Nat.le_of_eq aC.symm)) (kX ((aD tO).trans hf.out.2.2.1) (kX ((aD tO).trans hf.out.2.2.2.1) (kX ((aD tO).trans hf.out.2.2.2.2.1) (kX (zn) (kX (cO (jC hf.out).2.2.1 zr (by decide)) (kX (cO (jC hf.out).2.2.2.1 zr (by decide)) (kC (kA (kX (fun h=>(let ⟨e,X1,X2,F1,F2⟩:=(jC (jD hf.out)).2.1 h;⟨e,cO X1 zr (by decide),cO X2 zr (by decide),F1,F2⟩)) id)))))))))) hf.out)
    · have e8:=((jE hf.out).1 (hd 8 rfl))
      go_simp
      refine hK.out (upd s 6 (.bool x.2.2)) _ _ (by simp [ae,e8] <;> rfl) (kE (kA (fun _=>fun _=>rfl)) hf.out)
theorem yF (c:Ch) (h:Ha) (v1 v2:Value) (lo:Nat) (w:World) (h1:ag w lo v1 c.cells) (h2:ai w lo v2 c.words) (hc0:0≤h.cell) (hc1:h.cell<c.cells.length) (hc:aK c=true) (hlo:lo≤w.heap.size) :
    Calls Tryz.prog 252 #[.agg (af c v1 v2),.agg (aa h)] w fun r w'=>cz w w' lo v1 v2 (MI c h) r:=(oZ c h v1 v2 lo w h1 h2).1 hc0 hc1 hc hlo
theorem yG (c:Ch) (h:Ha) (v1 v2:Value) (lo:Nat) (w:World) (h1:ag w lo v1 c.cells) (h2:ai w lo v2 c.words) (hc:aK c=true) (hlo:lo≤w.heap.size) (hk:dO h.code h.elem=true) :
    Calls Tryz.prog 245 #[.agg (af c v1 v2),.agg (aa h)] w fun r w'=>cz w w' lo v1 v2 (NH c h) r:=(oZ c h v1 v2 lo w h1 h2).2 hc hlo hk
end
section
open Go.RowKit
attribute [local simp] aC
attribute [local go_sem ↓] aB aU aL bB aM bC aG aN au aF
theorem ko (c:Ch) (i st:Int) (a b:Value):af (bP c i st) a b=af c a b:=rfl
theorem j6 (c:Ch) (i st:Int):(bP c i st).words=c.words:=rfl
theorem mO {h:Ha} (e:bW h=true):0≤h.grow∧h.grow≤39:=by
 simp [bW,wR,dm] at e
 omega
theorem MJ (c:Ch) (h:Ha) (a b:Option Addr) (p q:Nat) (w:World) (h1:eY w w.heap.size a c.cells) (z1:a=none→p=0) (h2:eQ w w.heap.size b c.words) (z2:b=none→q=0) (hk:bf c h 1 8 1=true) (hp0:h.pos=8) :
  Calls Tryz.prog 189 #[.agg (af c (.slice a c.cells.length p) (.slice b c.words.length q)),.agg (aa h)] w fun r w'=>bV w w' (aZ c h) r:=by
 obtain ⟨k1,k2,_,_⟩:=bQ hk
 obtain ⟨n1,n2⟩:=dU k1
 have m1:c.cells.length≤1099511627776:=by omega
 have m2:c.words.length≤1099511627776:=by omega
 have H1:=Lib.hid h1
 have H2:=Lib.hid h2
 have Z1:=Lib.hid z1
 have Z2:=Lib.hid z2
 obtain ⟨c1,c2⟩:=fM k2
 obtain ⟨i,hci⟩:∃ i:Nat,h.cell=(i:Int):=⟨h.cell.toNat,by omega⟩
 have hi:i<c.cells.length:=by omega
 have e:aZ c h=done (bP c i 7) (aP 1 0):=by simp [aZ,hk,hp0,hci]
 rw [e]
 have ST:=Lib.hid fun v1 v2 W=>jq c i 7 v1 v2 w.heap.size W
 have D:=fun v1 v2 W=>bE (bP c i 7) (aP 1 0) v1 v2 w.heap.size W
 simp only [ko,j6] at D
 generalize done (bP c i 7) (aP 1 0)=x at *
 replace D:=Lib.hid D
 clear h1 h2 z1 z2 e k1 k2 n1 n2 c1 c2
 go_enter Tryz.func189,Tryz.ntmps189
 go_wp2_with fail;refine ax w zB fun bb=>?_;refine (d9 c h 1 8 1 a b p q _ (aT H1 bb) (aT H2 bb)).mono ?_;rintro _ w1 ⟨rfl,ah⟩;obtain ⟨aW,ay,zz⟩:=dZ bb ah (b:=w.heap.size);(try simp at ay);(try simp [go_sem] at zz);replace bX:=dF zz;clear zz ah bb
 rw [hk]
 go_wp2_with fail;refine ax w zB fun bb=>?_;refine (dA c a b p q _ (aT H1 bb) Z1.out (aT H2 bb) Z2.out m1 m2).mono ?_;rintro _ w2 ⟨⟨v1,v2,rfl,o1,o2⟩,hbw2⟩;obtain ⟨dE,bu,zz⟩:=dZ bb hbw2 (b:=w.heap.size);(try simp at bu);(first|simp [go_sem,bX] at zz|simp [go_sem] at zz|skip);replace bX:=dF zz;clear zz hbw2 bb
 have d1:=jd o1 (w.heap.size+1+1+1+1)
 have d2:=jd o2 (w.heap.size+1+1+1+1)
 have p1:=av (lo':=w.heap.size) o1 tO
 have p2:=av (lo':=w.heap.size) o2 tO
 obtain ⟨a1,q1,rfl,_⟩:=o1.seg
 obtain ⟨a2,q2,rfl,_⟩:=o2.seg
 have nw:∀ j,(j<w.heap.size+1+1+1+1∨w2.heap.size≤j)→some j≠(Value.slice a1 c.cells.length q1).ownBlock:=fun j hj e=>by have:=d1 _ e.symm;have:=(o1.lt _ e.symm).2;omega
 have Oc:=nw (w.heap.size) tO
 have M5:=nw (w.heap.size+1) tO
 have M6:=nw (w.heap.size+1+1) tO
 have NG:=nw (w.heap.size+1+1+1) tO
 have Pf:=nw w2.heap.size tO
 go_wp2_with fail
 refine (ST.out _ _ _ (zO p1 o1) (zO p2 o2) hi).mono ?_
 rintro _ w4 ⟨rfl,s1,s2,fJ⟩
 have iw:=fJ.size;(try (simp at iw));have zz:=And.intro (dB fJ (b:=w2.heap.size) tS (by assumption)) <| And.intro (dB fJ (b:=w.heap.size+1+1+1) tS (by assumption)) <| And.intro (dB fJ (b:=w.heap.size+1+1) tS (by assumption)) <| And.intro (dB fJ (b:=w.heap.size+1) tS (by assumption)) <| dB fJ (b:=w.heap.size) tS (by assumption);(first|simp [go_sem,bX] at zz|simp [go_sem] at zz|skip);replace bX:=jL zz;clear zz
 have jG:Below w.heap.size w w4:=iE zB fJ tS (fun k hk=>by have:=d1 k hk;omega)
 clear fJ
 go_wp2_with fail;refine ax w zB fun bb=>?_;refine ax w4 zB fun bk=>?_;refine (fO _ _ _).mono ?_;rintro _ w5 ⟨rfl,dD⟩;obtain ⟨oM,iL,zz⟩:=dZ bb dD (b:=w.heap.size);(try simp at iL);(first|simp [go_sem,bX] at zz|simp [go_sem] at zz|skip);replace bX:=dF zz;clear zz;have jH:=bT bk dD;clear dD bb bk
 have r1:=own_below s1 jH
 have r2:=own_below s2 jH
 go_wp2_with fail;refine ax w zB fun bb=>?_;refine (D.out _ _ _ (zO r1 o1) (zO r2 o2)).mono ?_;rintro _ w3 ⟨⟨y1,y2,rfl,aV,aX,dL,dI⟩,aO⟩;obtain ⟨ig,df,zz⟩:=dZ bb aO (b:=w.heap.size);(try simp at df);(first|simp [go_sem,bX] at zz|simp [go_sem] at zz|skip);replace bX:=dF zz;clear zz aO bb
 obtain ⟨⟨aI,aJ⟩,dP,dQ⟩:=lL (w:=w) (w.heap.size+1+1+1+1) dL dI d1 d2;obtain ⟨ya,yp,rfl,_⟩:=aV.seg;obtain ⟨yb,yq,rfl,_⟩:=aX.seg
 go_wp2
 refine rE Tryz.results189 rfl (az x.1 (.slice ya x.1.cells.length yp) (.slice yb x.1.words.length yq) tY) rfl (aj x.2.1 tY) ⟨⟨_,_,rfl,?_,?_,dP,dQ⟩,by exact zB⟩
 ·exact zP aV aV aI
 ·exact zP aX aX aJ
end
section
open Go.RowKit
attribute [local simp] aC
attribute [local go_sem ↓] aB aU aL bB aM bC aG aN au aF
theorem pY (h:Ha) (t:Int) (w:World):Calls Tryz.prog 206 #[.agg (aa h),.int .i64 t] w fun r w'=>r=.returned (.agg (aa (dR h t)))∧Below w.heap.size w w':=by
 go_enter Tryz.func206,Tryz.ntmps206
 go_wp2
 refine bodyPost_ret (ic Tryz.results206 rfl (aj (dR h t) (by simp [go_sem] <;> rfl))) rfl ⟨rfl,by exact zB⟩
theorem iN (h:Ha) (w:World):Calls Tryz.prog 209 #[.agg (aa h)] w fun r w'=>r=.returned (.agg (aa (dC h)))∧Below w.heap.size w w':=by
 by_cases h0:h.nxt=0
 ·rw [show dC h=aP 2 h.out by simp [dC,h0]]
  go_enter Tryz.func209,Tryz.ntmps209
  go_wp2_with fail;refine ax w zB fun bb=>?_;refine (fO 2 h.out _).mono ?_;rintro _ w1 ⟨rfl,ah⟩;obtain ⟨aW,ay,zz⟩:=CK bb ah (b:=w.heap.size);(try simp at ay);(try simp [go_sem] at zz);replace bX:=zS zz;clear zz ah bb
  go_wp2
  refine bodyPost_ret (ic Tryz.results209 rfl (aj (aP 2 h.out) tZ)) rfl ⟨rfl,by exact zB⟩
 ·by_cases h1:h.nxt=1
  ·rw [show dC h={ h with pos:=23 } by simp [dC,h1]]
   go_enter Tryz.func209,Tryz.ntmps209
   go_wp2
   refine bodyPost_ret (ic Tryz.results209 rfl (aj { h with pos:=23 } (by simp [go_sem, *] <;> first|rfl|simp [*]))) rfl ⟨rfl,by exact zB⟩
  ·rw [show dC h=anew h by simp [dC,h0,h1]]
   have n0:(h.nxt == 0)=false:=by simpa using h0
   have n1:(h.nxt == 1)=false:=by simpa using h1
   clear h0 h1
   go_enter Tryz.func209,Tryz.ntmps209
   go_wp2_with fail;refine ax w zB fun bb=>?_;refine (jW h _).mono ?_;rintro _ w1 ⟨rfl,ah⟩;obtain ⟨aW,ay,zz⟩:=CK bb ah (b:=w.heap.size);(try simp at ay);(try simp [go_sem] at zz);replace bX:=zS zz;clear zz ah bb
   go_wp2
   refine bodyPost_ret (ic Tryz.results209 rfl (aj (anew h) tZ)) rfl ⟨rfl,by exact zB⟩
theorem mP {c:Ch} {h:Ha} {x:C3} (hx:cellAt c h.cell=x) (n:Int) (hn:x.s=n) :
  gP c h=if n == 0 then ({ dK h x with pos:=11 },true) else if n == 1 then ({ dK h x with pos:=11 },true) else if n == 2 then ({ dK h x with pos:=12 },true) else if n == 3 then ({ dK h x with pos:=12 },true) else if n == 9 then (anew (dK h x),true) else (dK h x,false):=by
 subst hn;subst hx;rfl
theorem DK (c:Ch) (h:Ha) (a b:Option Addr) (p q:Nat) (w:World) (h1:eY w w.heap.size a c.cells) (hc0:0≤h.cell) (hc1:h.cell<c.cells.length) :
  Calls Tryz.prog 204 #[.agg (af c (.slice a c.cells.length p) (.slice b c.words.length q)),.agg (aa h)] w fun r w'=>r=.returned (.tuple #[.agg (aa (gP c h).1),.bool (gP c h).2])∧Below w.heap.size w w':=by
 obtain ⟨i,hci⟩:∃ i:Nat,h.cell=(i:Int):=⟨h.cell.toNat,by omega⟩
 have hi:i<c.cells.length:=by omega
 obtain ⟨bb,bo,rfl,hb,hcell⟩:∃ b' o,a=some ⟨b',o,none⟩∧b'<w.heap.size∧Hid (∀ j,j<3→w.cell? ⟨b',o+i*3+j,none⟩=some ((c.cells.getD i ⟨0,0,0⟩).val j)):=by
  rcases h1 with h0|⟨b',o',e,h1,h2⟩
  ·omega
  ·exact ⟨b',o',e,h1,fun j hj=>by simpa [ib] using h2 i j hi hj⟩
 clear h1
 have c0:=hcell.out 0 tO
 have c1:=hcell.out 1 tO
 have c2:=hcell.out 2 tO
 have hx:Hid (cellAt c h.cell=c.cells.getD i ⟨0,0,0⟩):=by simp [cellAt,Hid,hci]
 clear hcell
 generalize c.cells.getD i ⟨0,0,0⟩=x at *
 obtain ⟨s,e,t⟩:=x
 simp only [C3.val,Nat.add_zero] at c0 c1 c2
 have hi0:(0:Int)≤(i:Int):=by omega
 have hi1:(i:Int)<(c.cells.length:Int):=by omega
 have hb1:bb<w.heap.size+1:=by omega
 have hb2:bb<w.heap.size+1+1:=by omega
 have hb3:bb<w.heap.size+1+1+1:=by omega
 have hne:bb≠w.heap.size:=by omega
 have hne1:bb≠w.heap.size+1:=by omega
 have hne2:bb≠w.heap.size+1+1:=by omega
 have RG:bb≠w.heap.size+1+1+1:=by omega
 by_cases hn:s=0∨s=1∨s=2∨s=3∨s=9
 ·rcases hn with rfl|rfl|rfl|rfl|rfl
  ·rw [show gP c h=({ dK h ⟨0,e,t⟩ with pos:=11 },true) from mP hx.out 0 rfl]
   go_enter Tryz.func204,Tryz.ntmps204
   go_wp2
   refine bodyPost_ret (ja Tryz.results204 rfl (aj ({ dK h ⟨0,e,t⟩ with pos:=11 }) (by simp [go_sem, *] <;> first|rfl|simp [dK,anew,hci]))) rfl ⟨rfl,by exact zB⟩
  ·rw [show gP c h=({ dK h ⟨1,e,t⟩ with pos:=11 },true) from mP hx.out 1 rfl]
   go_enter Tryz.func204,Tryz.ntmps204
   go_wp2
   refine bodyPost_ret (ja Tryz.results204 rfl (aj ({ dK h ⟨1,e,t⟩ with pos:=11 }) (by simp [go_sem, *] <;> first|rfl|simp [dK,anew,hci]))) rfl ⟨rfl,by exact zB⟩
  ·rw [show gP c h=({ dK h ⟨2,e,t⟩ with pos:=12 },true) from mP hx.out 2 rfl]
   go_enter Tryz.func204,Tryz.ntmps204
   go_wp2
   refine bodyPost_ret (ja Tryz.results204 rfl (aj ({ dK h ⟨2,e,t⟩ with pos:=12 }) (by simp [go_sem, *] <;> first|rfl|simp [dK,anew,hci]))) rfl ⟨rfl,by exact zB⟩
  ·rw [show gP c h=({ dK h ⟨3,e,t⟩ with pos:=12 },true) from mP hx.out 3 rfl]
   go_enter Tryz.func204,Tryz.ntmps204
   go_wp2
   refine bodyPost_ret (ja Tryz.results204 rfl (aj ({ dK h ⟨3,e,t⟩ with pos:=12 }) (by simp [go_sem, *] <;> first|rfl|simp [dK,anew,hci]))) rfl ⟨rfl,by exact zB⟩
  ·rw [show gP c h=(anew (dK h ⟨9,e,t⟩),true) from mP hx.out 9 rfl]
   go_enter Tryz.func204,Tryz.ntmps204
   go_wp2_with fail;refine ax w zB fun bb=>?_;refine (jW _ _).mono ?_;rintro _ w1 ⟨rfl,ah⟩;obtain ⟨aW,ay,zz⟩:=Ct bb ah (b:=w.heap.size);(try simp at ay);(try simp [go_sem] at zz);replace bX:=Cs zz;clear zz ah bb
   go_wp2
   refine bodyPost_ret (ja Tryz.results204 rfl (aj (anew (dK h ⟨9,e,t⟩)) (by simp [go_sem, *] <;> first|rfl|simp [dK,anew,hci]))) rfl ⟨rfl,by exact zB⟩
 ·have n0:(s == 0)=false:=by simp;omega
  have n1:(s == 1)=false:=by simp;omega
  have n2:(s == 2)=false:=by simp;omega
  have n3:(s == 3)=false:=by simp;omega
  have n9:(s == 9)=false:=by simp;omega
  rw [show gP c h=(dK h ⟨s,e,t⟩,false) from by rw [mP hx.out s rfl,n0,n1,n2,n3,n9];rfl]
  clear hn
  go_enter Tryz.func204,Tryz.ntmps204
  go_wp2
  refine bodyPost_ret (ja Tryz.results204 rfl (aj (dK h ⟨s,e,t⟩) (by simp [go_sem, *] <;> first|rfl|simp [dK,anew,hci]))) rfl ⟨rfl,by exact zB⟩
theorem qF {c:Ch} {h:Ha} {x:C3} (hx:cellAt c h.grow=x) (n:Int) (hn:x.s=n) :
  kR c h=if n == 0 then { bM h x with pos:=19 } else if n == 3 then { bM h x with pos:=19 } else if n == 9 then { bM h x with pos:=16 } else dC (bM h x):=by
 subst hn;subst hx;rfl
theorem DL (c:Ch) (h:Ha) (a b:Option Addr) (p q:Nat) (w:World) (h1:eY w w.heap.size a c.cells) (hc0:0≤h.grow) (hc1:h.grow<c.cells.length) :
  Calls Tryz.prog 210 #[.agg (af c (.slice a c.cells.length p) (.slice b c.words.length q)),.agg (aa h)] w fun r w'=>r=.returned (.agg (aa (kR c h)))∧Below w.heap.size w w':=by
 obtain ⟨i,hci⟩:∃ i:Nat,h.grow=(i:Int):=⟨h.grow.toNat,by omega⟩
 have hi:i<c.cells.length:=by omega
 obtain ⟨bb,bo,rfl,hb,hcell⟩:∃ b' o,a=some ⟨b',o,none⟩∧b'<w.heap.size∧Hid (∀ j,j<3→w.cell? ⟨b',o+i*3+j,none⟩=some ((c.cells.getD i ⟨0,0,0⟩).val j)):=by
  rcases h1 with h0|⟨b',o',e,h1,h2⟩
  ·omega
  ·exact ⟨b',o',e,h1,fun j hj=>by simpa [ib] using h2 i j hi hj⟩
 clear h1
 have c0:=hcell.out 0 tO
 have c2:=hcell.out 2 tO
 have hx:Hid (cellAt c h.grow=c.cells.getD i ⟨0,0,0⟩):=by simp [cellAt,Hid,hci]
 clear hcell
 generalize c.cells.getD i ⟨0,0,0⟩=x at *
 obtain ⟨s,e,t⟩:=x
 simp only [C3.val,Nat.add_zero] at c0 c2
 have hi0:(0:Int)≤(i:Int):=by omega
 have hi1:(i:Int)<(c.cells.length:Int):=by omega
 have hb1:bb<w.heap.size+1:=by omega
 have hb2:bb<w.heap.size+1+1:=by omega
 have hb3:bb<w.heap.size+1+1+1:=by omega
 have hne:bb≠w.heap.size:=by omega
 have hne1:bb≠w.heap.size+1:=by omega
 have hne2:bb≠w.heap.size+1+1:=by omega
 have RG:bb≠w.heap.size+1+1+1:=by omega
 by_cases hn:s=0∨s=3∨s=9
 ·rcases hn with rfl|rfl|rfl
  ·rw [show kR c h={ bM h ⟨0,e,t⟩ with pos:=19 } from qF hx.out 0 rfl]
   go_enter Tryz.func210,Tryz.ntmps210
   go_wp2
   refine bodyPost_ret (ic Tryz.results210 rfl (aj ({ bM h ⟨0,e,t⟩ with pos:=19 }) (by simp [go_sem, *] <;> first|rfl|simp [bM,anew,hci]))) rfl ⟨rfl,by exact zB⟩
  ·rw [show kR c h={ bM h ⟨3,e,t⟩ with pos:=19 } from qF hx.out 3 rfl]
   go_enter Tryz.func210,Tryz.ntmps210
   go_wp2
   refine bodyPost_ret (ic Tryz.results210 rfl (aj ({ bM h ⟨3,e,t⟩ with pos:=19 }) (by simp [go_sem, *] <;> first|rfl|simp [bM,anew,hci]))) rfl ⟨rfl,by exact zB⟩
  ·rw [show kR c h={ bM h ⟨9,e,t⟩ with pos:=16 } from qF hx.out 9 rfl]
   go_enter Tryz.func210,Tryz.ntmps210
   go_wp2
   refine bodyPost_ret (ic Tryz.results210 rfl (aj ({ bM h ⟨9,e,t⟩ with pos:=16 }) (by simp [go_sem, *] <;> first|rfl|simp [bM,anew,hci]))) rfl ⟨rfl,by exact zB⟩
 ·have n0:(s == 0)=false:=by simp;omega
  have n3:(s == 3)=false:=by simp;omega
  have n9:(s == 9)=false:=by simp;omega
  rw [show kR c h=dC (bM h ⟨s,e,t⟩) from by rw [qF hx.out s rfl,n0,n3,n9];rfl]
  clear hn
  go_enter Tryz.func210,Tryz.ntmps210
  go_wp2_with fail;refine ax w zB fun bb=>?_;refine (iN _ _).mono ?_;rintro _ w1 ⟨rfl,ah⟩;obtain ⟨aW,ay,zz⟩:=Ct bb ah (b:=w.heap.size);(try simp at ay);(try simp [go_sem] at zz);replace bX:=Cs zz;clear zz ah bb
  go_wp2
  refine bodyPost_ret (ic Tryz.results210 rfl (aj (dC (bM h ⟨s,e,t⟩)) (by simp [go_sem, *] <;> first|rfl|simp [bM,anew,hci]))) rfl ⟨rfl,by exact zB⟩
end
section
open Go.RowKit
attribute [local simp] aC
attribute [local go_sem ↓] aB aU aL bB aM bC aG aN au aF
theorem rA (c:Ch) (v x:Int) (a b:Value):af (dN c v x) a b=af c a b:=by unfold dN;split <;> rfl
theorem qc (c:Ch) (v x:Int):(dN c v x).cells=c.cells:=by unfold dN;split <;> rfl
theorem ag.zero {w:World} {lo n q:Nat} {a:Option Addr} {cs:List C3} (h:ag w lo (.slice a n q) cs) (e:a=none):q=0:=by
 subst e
 rcases h.2 with ⟨h1,_⟩|⟨g,cap,cur,h1,_⟩
 ·simp at h1;exact h1.2
 ·simp at h1
theorem ai.zero {w:World} {lo n q:Nat} {a:Option Addr} {l:List Int} (h:ai w lo (.slice a n q) l) (e:a=none):q=0:=by
 subst e
 rcases h.2 with ⟨h1,_⟩|⟨g,cap,cur,h1,_⟩
 ·simp at h1;exact h1.2
 ·simp at h1
theorem ag.segAt {w:World} {lo q:Nat} {a:Option Addr} {cs:List C3} (h:ag w lo (.slice a cs.length q) cs):eY w w.heap.size a cs:=by
 obtain ⟨a',q',e,hs⟩:=h.seg
 simp at e
 obtain ⟨rfl,rfl⟩:=e
 exact hs
theorem ai.segAt {w:World} {lo q:Nat} {a:Option Addr} {l:List Int} (h:ai w lo (.slice a l.length q) l):eQ w w.heap.size a l:=by
 obtain ⟨a',q',e,hs⟩:=h.seg
 simp at e
 obtain ⟨rfl,rfl⟩:=e
 exact hs
theorem MK (c:Ch) (h:Ha) (a b:Option Addr) (p q:Nat) (w:World) (h1:eY w w.heap.size a c.cells) (z1:a=none→p=0) (h2:eQ w w.heap.size b c.words) (z2:b=none→q=0) (hk:bf c h 1 8 1=true) (hp0:h.pos=7) :
  Calls Tryz.prog 189 #[.agg (af c (.slice a c.cells.length p) (.slice b c.words.length q)),.agg (aa h)] w fun r w'=>bV w w' (aZ c h) r:=by
 have e:aZ c h=done (dN c h.wait 1) (lY c h).2:=by simp [aZ,hk,hp0,lY]
 rw [e]
 obtain ⟨k1,k2,_,_⟩:=bQ hk
 obtain ⟨n1,n2⟩:=dU k1
 have m1:c.cells.length≤1099511627776:=by omega
 have m2:c.words.length≤1099511627776:=by omega
 have H1:=Lib.hid h1
 have H2:=Lib.hid h2
 have Z1:=Lib.hid z1
 have Z2:=Lib.hid z2
 have D:=fun v1 v2 W=>bE (dN c h.wait 1) (lY c h).2 v1 v2 w.heap.size W
 have K:=Lib.hid fun a b p q W=>Dt c h a b p q W
 simp only [rA,qc] at D
 generalize done (dN c h.wait 1) (lY c h).2=x at *
 generalize (lY c h).2=y at *
 generalize (dN c h.wait 1).words=tw at *
 replace D:=Lib.hid D
 clear h1 h2 z1 z2 e k1 k2 n1 n2
 go_enter Tryz.func189,Tryz.ntmps189
 go_wp2_with fail;refine ax w zB fun bb=>?_;refine (d9 c h 1 8 1 a b p q _ (aT H1 bb) (aT H2 bb)).mono ?_;rintro _ w1 ⟨rfl,ah⟩;obtain ⟨aW,ay,zz⟩:=dZ bb ah (b:=w.heap.size);(try simp at ay);(try simp [go_sem] at zz);replace bX:=dF zz;clear zz ah bb
 rw [hk]
 go_wp2_with fail;refine ax w zB fun bb=>?_;refine (dA c a b p q _ (aT H1 bb) Z1.out (aT H2 bb) Z2.out m1 m2).mono ?_;rintro _ w2 ⟨⟨v1,v2,rfl,o1,o2⟩,hbw2⟩;obtain ⟨dE,bu,zz⟩:=dZ bb hbw2 (b:=w.heap.size);(try simp at bu);(first|simp [go_sem,bX] at zz|simp [go_sem] at zz|skip);replace bX:=dF zz;clear zz hbw2 bb
 have d1:=jd o1 (w.heap.size+1+1+1+1)
 have d2:=jd o2 (w.heap.size+1+1+1+1)
 have p1:=av (lo':=w.heap.size) o1 tO
 have p2:=av (lo':=w.heap.size) o2 tO
 obtain ⟨a1,q1,rfl,_⟩:=o1.seg
 obtain ⟨a2,q2,rfl,_⟩:=o2.seg
 have za:=ag.zero o1
 have zb:=ai.zero o2
 have ba:∀ j,j<w.heap.size+1+1+1+1→j<w1.heap.size:=fun j hj=>by omega
 have g1:=ag.segAt o1
 have g2:=ai.segAt o2
 have G1:=Lib.hid g1
 have G2:=Lib.hid g2
 clear g1 g2
 go_wp2_with fail;refine ax w zB fun bb=>?_;refine (K.out _ _ _ _ _ ((G1.out.below zB).more tS) za ((G2.out.below zB).more tS) zb m1 m2).mono ?_;rintro _ w3 ⟨⟨v3,v4,rfl,o3,o4⟩,aO⟩;have ig:=bT bb aO;have df:=aO.size;(try simp at df);have zz:=And.intro (hQ aO (b:=w2.heap.size)) <| And.intro (hQ aO (b:=w.heap.size+1+1+1)) <| And.intro (hQ aO (b:=w.heap.size+1+1)) <| And.intro (hQ aO (b:=w.heap.size+1)) <| hQ aO (b:=w.heap.size);(first|simp [go_sem,bX] at zz|simp [go_sem] at zz|skip);replace bX:=jL zz;clear zz aO bb
 have d3:∀ j,v3.ownBlock=some j→w.heap.size+1+1+1+1≤j:=fun j hj=>by have:=(o3.lt j hj).1;simp at this;omega
 have d4:∀ j,v4.ownBlock=some j→w.heap.size+1+1+1+1≤j:=fun j hj=>by have:=(o4.lt j hj).1;simp at this;omega
 have p3:=av (lo':=w.heap.size) o3 (by simp;omega)
 have p4:=av (lo':=w.heap.size) o4 (by simp;omega)
 obtain ⟨a3,q3,rfl,_⟩:=o3.seg
 obtain ⟨a4,q9,rfl,_⟩:=o4.seg
 obtain ⟨k0,k1,k2,k3⟩:=kZ (a:=w.heap.size) (b:=w2.heap.size)
 have RH:=fun j (h1:w.heap.size≤j) (h2:j<w2.heap.size+1)=>own_ne o3 (b:=j) (by simp;omega)
 have RI:=fun j (h1:w.heap.size≤j) (h2:j<w2.heap.size+1)=>own_ne o4 (b:=j) (by simp;omega)
 clear d1 d2
 have d1:=d3
 have d2:=d4
 go_wp2_with fail;refine ax w zB fun bb=>?_;refine (D.out _ _ _ (zP p3 p3 RH) (zP p4 p4 RI)).mono ?_;rintro _ w5 ⟨⟨y1,y2,rfl,aV,aX,dL,dI⟩,dD⟩;obtain ⟨oM,iL,zz⟩:=dZ bb dD (b:=w.heap.size);(try simp at iL);(first|simp [go_sem,bX,k0,k1,k2,k3] at zz|simp [go_sem] at zz|skip);replace bX:=dF zz;clear zz dD bb
 obtain ⟨⟨aI,aJ⟩,dP,dQ⟩:=lL (w:=w) (w.heap.size+1+1+1+1) dL dI d1 d2;obtain ⟨ya,yp,rfl,_⟩:=aV.seg;obtain ⟨yb,yq,rfl,_⟩:=aX.seg
 go_wp2
 refine rE Tryz.results189 rfl (az x.1 (.slice ya x.1.cells.length yp) (.slice yb x.1.words.length yq) tY) rfl (aj x.2.1 tY) ⟨⟨_,_,rfl,?_,?_,dP,dQ⟩,by exact zB⟩
 ·exact zP aV aV aI
 ·exact zP aX aX aJ
end
end Go.Proofs.YtffhjmepfojhnaaGreat
