/-
  The laws' helpers that lay out a list of hands anew and that compare two; lists of at most 1048576 elements.
  The laws' helpers that lay out a list of deals anew and that compare two; lists of at most 1048576 elements.
  The laws' helpers that write numbers into lists of Hands of the call's own and look for them, and count them; lists of at most 1048576 elements.
-/
import Derived.Test.YtmnpgkcdfielbaaP04
import Derived.Test.YtmnpgkcdfielbaaP05
import Derived.Test.YtmnpgkcdfielbaaP10
set_option linter.unusedSimpArgs false
set_option linter.unusedVariables false
namespace Go.Proofs.Ytmnpgkcdfielbaa
open Go.RowKit
set_option linter.unusedSimpArgs false
theorem bel_setelem {lo b o:Nat} {w W:World} {x:Ha} (h:Below lo w W) (hl:lo≤W.heap.size) (hb:lo≤b):Below lo w (setElem W b o x):=bOwn h (setElem_gr W b o x) hl (fun k hk=>by simp at hk;omega)
/-- A hand of the laws that lies in a list is loaded whole. -/
theorem ldHandEL {w:World} {b o:Nat} (x:Ha) (h:∀ j,j<14→w.cell? ⟨b,o+j,none⟩=some ((hvals x).getD j (.int .i64 0))):(LHandL (.pointer (some ⟨b,o,none⟩))).run Try.prog w=.ok (.agg (hvals x)) w:=by
  have h0:=h 0 (by omega)
  have h1:=h 1 (by omega)
  have h2:=h 2 (by omega)
  have h3:=h 3 (by omega)
  have h4:=h 4 (by omega)
  have h5:=h 5 (by omega)
  have h6:=h 6 (by omega)
  have h7:=h 7 (by omega)
  have h8:=h 8 (by omega)
  have h9:=h 9 (by omega)
  have h10:=h 10 (by omega)
  have h11:=h 11 (by omega)
  have h12:=h 12 (by omega)
  have h13:=h 13 (by omega)
  simp [hvals,Array.getD] at h0 h1 h2 h3 h4 h5 h6 h7 h8 h9 h10 h11 h12 h13
  simp [LHandL,hvals,go_sem, *]
attribute [local simp] bx_size
attribute [local go_sem ↓] zeroHand toLHand toVHand toSHand storeHandC
attribute [local go_sem] runSHand
attribute [local go_sem ↓] toLHandL
theorem mkHands (n:Nat) (h:n≤1048576) (W:World):(Instr.makeSlice 34 (.int .i64 n) (.int .i64 n)).run Try.prog W=.ok (.slice (some ⟨W.heap.size,0,none⟩) n n) (W.alloc (.cells (madeCells (hvals Ha.zero) (n*14)) 53)):=by
  obtain ⟨i,hi,hz,hs,hb⟩:=info_parts infoHandE
  have:=run_make (P:=Try.prog) W 34 53 i _ Try.underlying34 hi hz .i64 .i64 n n (by omega) (by omega) (by rw [hb];omega) (by omega)
  rw [this,hs]
  simp [Value.cells]
theorem Row.setElem {w:World} {b n:Nat} {t:TypeId} {f:Nat→Nat→Value} (h:Row w b t n 14 f) {i:Nat} (hi:i<n) (x:Ha):Row (setElem w b (i*14) x) b t n 14 (fun i' j'=>if i'=i then (hvals x).getD j' (.int .i64 0) else f i' j'):=h.set14 hi (fun j=>(hvals x).getD j (.int .i64 0))
set_option maxRecDepth 100000 in
set_option maxHeartbeats 4000000 in
theorem toHandS_any (xs:List Ha) (a:Option Addr) (cap:Nat) (w:World) (h:Seg w w.heap.size a xs.length 14 (handF xs)) (hm:xs.length≤1048576) :
    Calls Try.prog 19 #[.slice a xs.length cap] w fun r w'=>r=.returned (.slice (some ⟨w.heap.size,0,none⟩) xs.length xs.length)∧Row w' w.heap.size 53 xs.length 14 (handF xs)∧Below w.heap.size w w':=by
  have HS:=Lib.hid h
  clear h
  have hmk:=mkHands xs.length hm
  have hR0:=(Row.made w (hvals Ha.zero) xs.length 53).congr (g:=partN (handF xs) (fun _ j=>(hvals Ha.zero)[j]!) 0) (fun i j _ hj=>by rw [partN_0])
  go_enter Try.func19,Try.ntmps19
  go_wp2
  go_loopw [4] (fun i wr=>∃ k:Nat,k≤xs.length∧i=.int .i64 k∧Row wr w.heap.size 53 xs.length 14 (partN (handF xs) (fun _ j=>(hvals Ha.zero)[j]!) k)∧Below w.heap.size w wr) (fun i _=>xs.length - (intOf i).toNat)
  case atStart=>exact ⟨0,Nat.zero_le _,rfl,hR0,(Below.refl _ _).alloc (Nat.le_refl _) _⟩
  case round =>
    obtain ⟨k,hk,rfl,hR,hB⟩:=hrel
    have hs:=hB.size
    have hl:=hR.lt
    by_cases hlt:k<xs.length
    · obtain h0|⟨b,o,rfl,hb,hc⟩:=HS.out
      · omega
      have hLd:=ldHandEL (w:=wr) (b:=b) (o:=o+k*14) (xs.getD k Ha.zero) (fun j hj=>(hB.cell (p:=⟨b,o+k*14+j,none⟩) hb).trans (hc k j hlt hj))
      clear hc
      generalize hcg:xs.getD k Ha.zero=x at hLd
      have HC:=Lib.hid hcg
      clear hcg
      go_wp2_with ((go_at_call 46;refine (toHand_any _ _).mono ?_;rintro _ w1 ⟨rfl,hbw1⟩;have hBw1:Below w.heap.size w w1:=bT (by exact zB) hbw1;have hsw1:=hbw1.size;(try (simp at hsw1)));have hR1:=hR.below hbw1 hl;have hst:=stHandE (w:=w1) (b:=w.heap.size) (o:=k*14) x (fun j hj=>⟨_,hR1.cell hlt hj⟩) hR1.frozen)
      go_roundw
      case rel=>exact ⟨k+1,by omega,by go_num,(hR1.setElem hlt x).congr (fun i j _ _=>partN_step (v:=fun j=>(hvals x).getD j (.int .i64 0)) (by show _=(hvals (xs.getD k Ha.zero)).getD j (.int .i64 0);rw [HC.out]) i),bel_setelem hBw1 (by omega) (by omega)⟩
      case measure=>simp [intOf];omega
    · have:k=xs.length:=by omega
      subst this
      go_wp2
      go_ret
      exact ⟨rfl,hR.congr (partN_end _ _ _ 14),hB⟩
set_option maxRecDepth 100000 in
set_option maxHeartbeats 4000000 in
theorem eqHandS_any (xs:List Ha) (a a':Option Addr) (cap cap':Nat) (w:World) (h:Seg w w.heap.size a xs.length 14 (handF xs)) (h':Seg w w.heap.size a' xs.length 14 (handF xs)) (hm:xs.length≤1048576) :
    Calls Try.prog 26 #[.slice a xs.length cap,.slice a' xs.length cap'] w fun r w'=>r=.returned (.bool true)∧Below w.heap.size w w':=by
  have HS:=Lib.hid h
  have HS':=Lib.hid h'
  clear h h'
  go_enter Try.func26,Try.ntmps26
  go_wp2
  go_loopw [5] (fun i wr=>∃ k:Nat,k≤xs.length∧i=.int .i64 k∧Below w.heap.size w wr) (fun i _=>xs.length - (intOf i).toNat)
  case atStart=>exact ⟨0,Nat.zero_le _,rfl,Below.refl _ _⟩
  case round =>
    obtain ⟨k,hk,rfl,hB⟩:=hrel
    have hs:=hB.size
    by_cases hlt:k<xs.length
    · obtain h0|⟨b,o,rfl,hb,hc⟩:=HS.out
      · omega
      obtain h0|⟨b',o',rfl,hb',hc'⟩:=HS'.out
      · omega
      have hLd:=ldHandE (w:=wr.drew) (b:=b) (o:=o+k*14) (xs.getD k Ha.zero) (fun j hj=>(hB.cell (p:=⟨b,o+k*14+j,none⟩) hb).trans (hc k j hlt hj))
      have hLd':=ldHandE (w:=wr.drew) (b:=b') (o:=o'+k*14) (xs.getD k Ha.zero) (fun j hj=>(hB.cell (p:=⟨b',o'+k*14+j,none⟩) hb').trans (hc' k j hlt hj))
      clear hc hc'
      generalize xs.getD k Ha.zero=x at hLd hLd'
      have hk0:(0:Int)≤(k:Int):=by omega
      have hk1:(k:Int)<(xs.length:Int):=by omega
      go_wp2_with fail
      go_still_tail 8,(by kernel_rfl)
      go_wp2_with (go_at_call 56;refine (eqHand_any _ _).mono ?_;rintro _ w1 ⟨rfl,hbw1⟩;have hBw1:Below w.heap.size w w1:=bT (by exact zB) hbw1;have hsw1:=hbw1.size;(try (simp at hsw1)))
      go_roundw
      case rel=>exact ⟨k+1,by omega,by go_num,by exact zB⟩
      case measure=>simp [intOf];omega
    · have:k=xs.length:=by omega
      subst this
      go_wp2
      go_ret
      exact ⟨rfl,hB⟩
end Go.Proofs.Ytmnpgkcdfielbaa
set_option linter.unusedSimpArgs false
set_option linter.unusedVariables false
namespace Go.Proofs.Ytmnpgkcdfielbaa
open Go.RowKit
set_option linter.unusedSimpArgs false
/-- Loading whole, as one word. -/
def LDeal (x:Value):Sem Value:=Instr.loadAt 74 x
theorem toLDeal (x:Value):Instr.loadAt 74 x=LDeal x:=by unfold LDeal;simp
theorem ldDealE {w:World} {b o:Nat} (x:De) (h:∀ j,j<7→w.cell? ⟨b,o+j,none⟩=some ((dvals x).getD j (.int .i64 0))):(LDeal (.pointer (some ⟨b,o,none⟩))).run Try.prog w=.ok (.agg (dvals x)) w:=by
  have h0:=h 0 (by omega)
  have h1:=h 1 (by omega)
  have h2:=h 2 (by omega)
  have h3:=h 3 (by omega)
  have h4:=h 4 (by omega)
  have h5:=h 5 (by omega)
  have h6:=h 6 (by omega)
  simp [dvals,Array.getD] at h0 h1 h2 h3 h4 h5 h6
  simp [LDeal,dvals,go_sem, *]
/-- Loading whole, as one word. -/
def LDealL (x:Value):Sem Value:=Instr.loadAt 87 x
theorem toLDealL (x:Value):Instr.loadAt 87 x=LDealL x:=by unfold LDealL;simp
theorem ldDealEL {w:World} {b o:Nat} (x:De) (h:∀ j,j<7→w.cell? ⟨b,o+j,none⟩=some ((dvals x).getD j (.int .i64 0))):(LDealL (.pointer (some ⟨b,o,none⟩))).run Try.prog w=.ok (.agg (dvals x)) w:=by
  have h0:=h 0 (by omega)
  have h1:=h 1 (by omega)
  have h2:=h 2 (by omega)
  have h3:=h 3 (by omega)
  have h4:=h 4 (by omega)
  have h5:=h 5 (by omega)
  have h6:=h 6 (by omega)
  simp [dvals,Array.getD] at h0 h1 h2 h3 h4 h5 h6
  simp [LDealL,dvals,go_sem, *]
/-- Storing a deal whole, as one word. -/
def SDeal (x v:Value):Sem Unit:=Instr.storeAt 74 x v
theorem toSDeal (x v:Value):Instr.storeAt 74 x v=SDeal x v:=by unfold SDeal;simp
/-- A deal is laid into a list. -/
def setDeal (w:World) (b o:Nat) (x:De):World :=
  (((((((w.setCell ⟨b,o+0,none⟩ (.int .i64 x.task)).setCell ⟨b,o+1,none⟩ (.int .i64 x.code)).setCell ⟨b,o+2,none⟩ (.int .i64 x.elem)).setCell ⟨b,o+3,none⟩ (.int .i64 x.beg)).setCell ⟨b,o+4,none⟩ (.int .i64 x.fin)).setCell ⟨b,o+5,none⟩ (.int .i64 x.reply)).setCell ⟨b,o+6,none⟩ (.int .i64 x.out))
set_option maxRecDepth 100000 in
set_option maxHeartbeats 4000000 in
theorem stDealE {w:World} {b o:Nat} (x:De) (h:∀ j,j<7→∃ v,w.cell? ⟨b,o+j,none⟩=some v) (hf:∀ j,w.frozen? ⟨b,j,none⟩=false):(SDeal (.pointer (some ⟨b,o,none⟩)) (.agg (dvals x))).run Try.prog w=.ok () (setDeal w b o x):=by
  obtain ⟨u0,h0⟩:=h 0 (by omega)
  obtain ⟨u1,h1⟩:=h 1 (by omega)
  obtain ⟨u2,h2⟩:=h 2 (by omega)
  obtain ⟨u3,h3⟩:=h 3 (by omega)
  obtain ⟨u4,h4⟩:=h 4 (by omega)
  obtain ⟨u5,h5⟩:=h 5 (by omega)
  obtain ⟨u6,h6⟩:=h 6 (by omega)
  simp only [Nat.add_zero] at h0
  simp [SDeal,dvals,go_sem,setDeal, *]
theorem setDeal_gr (w:World) (b o:Nat) (x:De):w.grownBy (setDeal w b o x) (some b):=by
  unfold setDeal
  repeat (first|with_reducible exact gR _ _|with_reducible refine gS ?_ (.inl rfl))
theorem bel_setdeal {lo b o:Nat} {w W:World} {x:De} (h:Below lo w W) (hl:lo≤W.heap.size) (hb:lo≤b):Below lo w (setDeal W b o x):=bOwn h (setDeal_gr W b o x) hl (fun k hk=>by simp at hk;omega)
set_option maxRecDepth 100000 in
set_option maxHeartbeats 4000000 in
theorem toDeal_any (x:De) (w:World):Calls Try.prog 47 #[.agg (dvals x)] w fun r w'=>r=.returned (.agg (dvals x))∧Below w.heap.size w w':=by
  obtain ⟨xt,xc,xe,xb,xf,xr,xo⟩:=x
  simp only [dvals]
  go_enter Try.func47,Try.ntmps47
  go_wp2_with fail;refine bHit w (by exact zB) fun bb=>?_;refine (toCall_whole xc xe _).mono ?_;rintro _ w1 ⟨rfl,hbw1⟩;have hCw1:Below w.heap.size w w1:=bT bb hbw1;have hsw1:=hbw1.size;(try simp at hsw1);have zz:=And.intro (hQ hbw1 (b:=w.heap.size+1+1)) <| And.intro (hQ hbw1 (b:=w.heap.size+1)) <| hQ hbw1 (b:=w.heap.size);(try simp [go_sem] at zz);(try clear z_wpp x_wpp f_wpp l_wpp);(try clear z_wp x_wp f_wp l_wp);(try clear z_w x_w f_w l_w);obtain ⟨z_wpp,z_wp,z_w⟩:=zz;obtain ⟨x_wpp,f_wpp,l_wpp⟩:=bO z_wpp;obtain ⟨x_wp,f_wp,l_wp⟩:=bO z_wp;obtain ⟨x_w,f_w,l_w⟩:=bO z_w;clear hbw1 bb
  go_wp2
  exact bodyPost_ret (v:=.agg #[.int .i64 xt,.int .i64 xc,.int .i64 xe,.int .i64 xb,.int .i64 xf,.int .i64 xr,.int .i64 xo]) (by simp [results,Try.results47,go_sem, *]) rfl ⟨rfl,by exact zB⟩
set_option maxRecDepth 100000 in
set_option maxHeartbeats 4000000 in
theorem eqDeal_any (x:De) (w:World):Calls Try.prog 57 #[.agg (dvals x),.agg (dvals x)] w fun r w'=>r=.returned (.bool true)∧Below w.heap.size w w':=by
  obtain ⟨xt,xc,xe,xb,xf,xr,xo⟩:=x
  simp only [dvals]
  go_enter Try.func57,Try.ntmps57
  go_wp2_with ((go_at_call 80;refine (eqCall_self _ _ _).mono ?_;rintro _ w1 ⟨rfl,hbw1⟩;have hBw1:Below w.heap.size w w1:=bT (by exact zB) hbw1;have hsw1:=hbw1.size;(try (simp at hsw1));have:=fun o=>hbw1.cell (p:=⟨w.heap.size,o,none⟩) (by ((try simp);(try omega)));have:=fun o=>hbw1.frozen (p:=⟨w.heap.size,o,none⟩) (by ((try simp);(try omega)));have:=fun o=>hbw1.cell (p:=⟨w.heap.size+1,o,none⟩) (by ((try simp);(try omega)));have:=fun o=>hbw1.frozen (p:=⟨w.heap.size+1,o,none⟩) (by ((try simp);(try omega)));have:w.heap.size<w1.heap.size:=(by omega);have:w.heap.size≤w1.heap.size:=(by omega);have:w.heap.size≤w1.heap.size+1:=(by omega);have:w.heap.size+1<w1.heap.size:=(by omega);have:w.heap.size+1≤w1.heap.size:=(by omega);have:w.heap.size+1≤w1.heap.size+1:=(by omega)))
  all_goals go_ret
  all_goals exact ⟨rfl,by exact zB⟩
attribute [local go_sem ↓] toLDeal toLDealL toSDeal
theorem mkDeals (n:Nat) (h:n≤1048576) (W:World):(Instr.makeSlice 35 (.int .i64 n) (.int .i64 n)).run Try.prog W=.ok (.slice (some ⟨W.heap.size,0,none⟩) n n) (W.alloc (.cells (madeCells (dvals De.zero) (n*7)) 74)):=by
  obtain ⟨i,hi,hz,hs,hb⟩:=info_parts infoDealE
  have:=run_make (P:=Try.prog) W 35 74 i _ Try.underlying35 hi hz .i64 .i64 n n (by omega) (by omega) (by rw [hb];omega) (by omega)
  rw [this,hs]
  simp [Value.cells]
theorem Row.setDeal {w:World} {b n:Nat} {t:TypeId} {f:Nat→Nat→Value} (h:Row w b t n 7 f) {i:Nat} (hi:i<n) (x:De):Row (setDeal w b (i*7) x) b t n 7 (fun i' j'=>if i'=i then (dvals x).getD j' (.int .i64 0) else f i' j'):=h.set7 hi (fun j=>(dvals x).getD j (.int .i64 0))
set_option maxRecDepth 100000 in
set_option maxHeartbeats 4000000 in
theorem toDealS_any (xs:List De) (a:Option Addr) (cap:Nat) (w:World) (h:Seg w w.heap.size a xs.length 7 (dealF xs)) (hm:xs.length≤1048576) :
    Calls Try.prog 20 #[.slice a xs.length cap] w fun r w'=>r=.returned (.slice (some ⟨w.heap.size,0,none⟩) xs.length xs.length)∧Row w' w.heap.size 74 xs.length 7 (dealF xs)∧Below w.heap.size w w':=by
  have HS:=Lib.hid h
  clear h
  have hmk:=mkDeals xs.length hm
  have hR0:=(Row.made w (dvals De.zero) xs.length 74).congr (g:=partN (dealF xs) (fun _ j=>(dvals De.zero)[j]!) 0) (fun i j _ hj=>by rw [partN_0])
  go_enter Try.func20,Try.ntmps20
  go_wp2
  go_loopw [4] (fun i wr=>∃ k:Nat,k≤xs.length∧i=.int .i64 k∧Row wr w.heap.size 74 xs.length 7 (partN (dealF xs) (fun _ j=>(dvals De.zero)[j]!) k)∧Below w.heap.size w wr) (fun i _=>xs.length - (intOf i).toNat)
  case atStart=>exact ⟨0,Nat.zero_le _,rfl,hR0,(Below.refl _ _).alloc (Nat.le_refl _) _⟩
  case round =>
    obtain ⟨k,hk,rfl,hR,hB⟩:=hrel
    have hs:=hB.size
    have hl:=hR.lt
    by_cases hlt:k<xs.length
    · obtain h0|⟨b,o,rfl,hb,hc⟩:=HS.out
      · omega
      have hLd:=ldDealEL (w:=wr) (b:=b) (o:=o+k*7) (xs.getD k De.zero) (fun j hj=>(hB.cell (p:=⟨b,o+k*7+j,none⟩) hb).trans (hc k j hlt hj))
      clear hc
      generalize hcg:xs.getD k De.zero=x at hLd
      have HC:=Lib.hid hcg
      clear hcg
      go_wp2_with ((go_at_call 47;refine (toDeal_any _ _).mono ?_;rintro _ w1 ⟨rfl,hbw1⟩;have hBw1:Below w.heap.size w w1:=bT (by exact zB) hbw1;have hsw1:=hbw1.size;(try (simp at hsw1)));have hR1:=hR.below hbw1 hl;have hst:=stDealE (w:=w1) (b:=w.heap.size) (o:=k*7) x (fun j hj=>⟨_,hR1.cell hlt hj⟩) hR1.frozen)
      go_roundw
      case rel=>exact ⟨k+1,by omega,by go_num,(hR1.setDeal hlt x).congr (fun i j _ _=>partN_step (v:=fun j=>(dvals x).getD j (.int .i64 0)) (by show _=(dvals (xs.getD k De.zero)).getD j (.int .i64 0);rw [HC.out]) i),bel_setdeal hBw1 (by omega) (by omega)⟩
      case measure=>simp [intOf];omega
    · have:k=xs.length:=by omega
      subst this
      go_wp2
      go_ret
      exact ⟨rfl,hR.congr (partN_end _ _ _ 7),hB⟩
set_option maxRecDepth 100000 in
set_option maxHeartbeats 4000000 in
theorem eqDealS_any (xs:List De) (a a':Option Addr) (cap cap':Nat) (w:World) (h:Seg w w.heap.size a xs.length 7 (dealF xs)) (h':Seg w w.heap.size a' xs.length 7 (dealF xs)) (hm:xs.length≤1048576) :
    Calls Try.prog 27 #[.slice a xs.length cap,.slice a' xs.length cap'] w fun r w'=>r=.returned (.bool true)∧Below w.heap.size w w':=by
  have HS:=Lib.hid h
  have HS':=Lib.hid h'
  clear h h'
  go_enter Try.func27,Try.ntmps27
  go_wp2
  go_loopw [5] (fun i wr=>∃ k:Nat,k≤xs.length∧i=.int .i64 k∧Below w.heap.size w wr) (fun i _=>xs.length - (intOf i).toNat)
  case atStart=>exact ⟨0,Nat.zero_le _,rfl,Below.refl _ _⟩
  case round =>
    obtain ⟨k,hk,rfl,hB⟩:=hrel
    have hs:=hB.size
    by_cases hlt:k<xs.length
    · obtain h0|⟨b,o,rfl,hb,hc⟩:=HS.out
      · omega
      obtain h0|⟨b',o',rfl,hb',hc'⟩:=HS'.out
      · omega
      have hLd:=ldDealE (w:=wr.drew) (b:=b) (o:=o+k*7) (xs.getD k De.zero) (fun j hj=>(hB.cell (p:=⟨b,o+k*7+j,none⟩) hb).trans (hc k j hlt hj))
      have hLd':=ldDealE (w:=wr.drew) (b:=b') (o:=o'+k*7) (xs.getD k De.zero) (fun j hj=>(hB.cell (p:=⟨b',o'+k*7+j,none⟩) hb').trans (hc' k j hlt hj))
      clear hc hc'
      generalize xs.getD k De.zero=x at hLd hLd'
      have hk0:(0:Int)≤(k:Int):=by omega
      have hk1:(k:Int)<(xs.length:Int):=by omega
      go_wp2_with fail
      go_still_tail 8,(by kernel_rfl)
      go_wp2_with (go_at_call 57;refine (eqDeal_any _ _).mono ?_;rintro _ w1 ⟨rfl,hbw1⟩;have hBw1:Below w.heap.size w w1:=bT (by exact zB) hbw1;have hsw1:=hbw1.size;(try (simp at hsw1)))
      go_roundw
      case rel=>exact ⟨k+1,by omega,by go_num,by exact zB⟩
      case measure=>simp [intOf];omega
    · have:k=xs.length:=by omega
      subst this
      go_wp2
      go_ret
      exact ⟨rfl,hB⟩
end Go.Proofs.Ytmnpgkcdfielbaa
set_option linter.unusedSimpArgs false
set_option linter.unusedVariables false
namespace Go.Proofs.Ytmnpgkcdfielbaa
open Go.RowKit
def numsHand (k:Int) (m:Nat):Nat→Value
  | 0=>.int .i64 (k+14*(m:Int))
  | 1=>.int .i64 (k+14*(m:Int)+1)
  | 2=>.int .i64 (k+14*(m:Int)+1+1)
  | 3=>.int .i64 (k+14*(m:Int)+1+1+1)
  | 4=>.int .i64 (k+14*(m:Int)+1+1+1+1)
  | 5=>.int .i64 (k+14*(m:Int)+1+1+1+1+1)
  | 6=>.int .i64 (k+14*(m:Int)+1+1+1+1+1+1)
  | 7=>.int .i64 (k+14*(m:Int)+1+1+1+1+1+1+1)
  | 8=>.int .i64 (k+14*(m:Int)+1+1+1+1+1+1+1+1)
  | 9=>.int .i64 (k+14*(m:Int)+1+1+1+1+1+1+1+1+1)
  | 10=>.int .i64 (k+14*(m:Int)+1+1+1+1+1+1+1+1+1+1)
  | 11=>.int .i64 (k+14*(m:Int)+1+1+1+1+1+1+1+1+1+1+1)
  | 12=>.int .i64 (k+14*(m:Int)+1+1+1+1+1+1+1+1+1+1+1+1)
  | _=>.int .i64 (k+14*(m:Int)+1+1+1+1+1+1+1+1+1+1+1+1+1)
theorem numsHand_ok (k:Int) (m:Nat):∀ j,j<14→numsHand k m j=numF 14 k m j:=by
  intro j hj
  have:j=0∨j=1∨j=2∨j=3∨j=4∨j=5∨j=6∨j=7∨j=8∨j=9∨j=10∨j=11∨j=12∨j=13:=by omega
  rcases this with rfl|rfl|rfl|rfl|rfl|rfl|rfl|rfl|rfl|rfl|rfl|rfl|rfl|rfl <;> (simp only [numsHand,numF];congr 1 <;> omega)
set_option maxRecDepth 100000 in
set_option maxHeartbeats 4000000 in
theorem markHandS_any (n:Nat) (f:Nat→Nat→Value) (lo:Nat) (v:Value) (k:Int) (w:World) (h:New w lo v n 14 f) (h0:0≤k) (h1:k≤1099511627776) (hm:n≤1048576) :
    Calls Try.prog 29 #[v,.int .i64 k] w fun r w'=>r=.returned (.int .i64 (k+14*n))∧New w' lo v n 14 (numF 14 k)∧w.grownBy w' v.ownBlock:=by
  rcases h with ⟨rfl,rfl⟩|⟨g,cap,rfl,hl,hL⟩
  · go_enter Try.func29,Try.ntmps29
    go_wp2
    go_loopw [1,5] (fun q i wr=>i=.int .i64 0∧q=.int .i64 k∧wr=w) (fun _ i _=>0 - (intOf i).toNat)
    case atStart=>exact ⟨rfl,rfl,rfl⟩
    case round =>
      obtain ⟨rfl,rfl,rfl⟩:=hrel
      go_wp2
      go_ret
      exact ⟨by simp,.inl ⟨rfl,rfl⟩,grR _ _⟩
  · have hW:=grR w (some g)
    go_enter Try.func29,Try.ntmps29
    go_wp2
    go_loopw [1,5] (fun q i wr=>∃ m:Nat,m≤n∧i=.int .i64 m∧q=.int .i64 (k+14*m)∧Lie wr g n 14 (partN (numF 14 k) f m)∧w.grownBy wr (some g)) (fun _ i _=>n - (intOf i).toNat)
    case atStart=>exact ⟨0,Nat.zero_le _,rfl,by simp,by rw [partN_0];exact hL,hW⟩
    case round =>
      clear hL hW
      obtain ⟨m,hk,rfl,rfl,hL,hW⟩:=hrel
      by_cases hlt:m<n
      ·
        have e0:=hL.cell hlt (show 0<14 by omega)
        have e1:=hL.cell hlt (show 1<14 by omega)
        have e2:=hL.cell hlt (show 2<14 by omega)
        have e3:=hL.cell hlt (show 3<14 by omega)
        have e4:=hL.cell hlt (show 4<14 by omega)
        have e5:=hL.cell hlt (show 5<14 by omega)
        have e6:=hL.cell hlt (show 6<14 by omega)
        have e7:=hL.cell hlt (show 7<14 by omega)
        have e8:=hL.cell hlt (show 8<14 by omega)
        have e9:=hL.cell hlt (show 9<14 by omega)
        have e10:=hL.cell hlt (show 10<14 by omega)
        have e11:=hL.cell hlt (show 11<14 by omega)
        have e12:=hL.cell hlt (show 12<14 by omega)
        have e13:=hL.cell hlt (show 13<14 by omega)
        simp only [Nat.add_zero] at e0
        have f1:=hL.frozen
        go_wp2
        go_roundw
        case rel=>exact ⟨m+1,by omega,by go_num,by go_num,(hL.set14 hlt (numsHand k m)).congr (fun i j _ hj=>partN_step (numsHand_ok k m j hj) i),(grS (grS (grS (grS (grS (grS (grS (grS (grS (grS (grS (grS (grS (grS hW rfl) rfl) rfl) rfl) rfl) rfl) rfl) rfl) rfl) rfl) rfl) rfl) rfl) rfl)⟩
        case measure=>simp [intOf];omega
      · have:m=n:=by omega
        subst this
        go_wp2
        go_ret
        exact ⟨rfl,.inr ⟨g,cap,rfl,hl,hL.congr (partN_end _ _ m 14)⟩,hW⟩
set_option maxRecDepth 100000 in
set_option maxHeartbeats 4000000 in
theorem heldHandS_any (n:Nat) (lo:Nat) (v:Value) (k:Int) (w:World) (h:New w lo v n 14 (numF 14 k)) (h0:0≤k) (h1:k≤1099511627776) (hm:n≤1048576) :
    Calls Try.prog 32 #[v,.int .i64 k] w fun r w'=>r=.returned (.int .i64 (k+14*n))∧Below w.heap.size w w':=by
  obtain ⟨a,cap,rfl,hS⟩:=h.seg
  have HS:=Lib.hid hS
  clear hS h
  go_enter Try.func32,Try.ntmps32
  go_wp2
  go_loopw [1,5] (fun q i wr=>∃ m:Nat,m≤n∧i=.int .i64 m∧q=.int .i64 (k+14*m)∧Below w.heap.size w wr) (fun _ i _=>n - (intOf i).toNat)
  case atStart=>exact ⟨0,Nat.zero_le _,rfl,by simp,Below.refl _ _⟩
  case round =>
    obtain ⟨m,hk,rfl,rfl,hB⟩:=hrel
    by_cases hlt:m<n
    · obtain h0'|⟨b,o,rfl,hb,hc⟩:=HS.out
      · omega
      have c0:=(hB.cell (p:=⟨b,o+m*14+0,none⟩) hb).trans (hc m 0 hlt (by omega))
      have c1:=(hB.cell (p:=⟨b,o+m*14+1,none⟩) hb).trans (hc m 1 hlt (by omega))
      have c2:=(hB.cell (p:=⟨b,o+m*14+2,none⟩) hb).trans (hc m 2 hlt (by omega))
      have c3:=(hB.cell (p:=⟨b,o+m*14+3,none⟩) hb).trans (hc m 3 hlt (by omega))
      have c4:=(hB.cell (p:=⟨b,o+m*14+4,none⟩) hb).trans (hc m 4 hlt (by omega))
      have c5:=(hB.cell (p:=⟨b,o+m*14+5,none⟩) hb).trans (hc m 5 hlt (by omega))
      have c6:=(hB.cell (p:=⟨b,o+m*14+6,none⟩) hb).trans (hc m 6 hlt (by omega))
      have c7:=(hB.cell (p:=⟨b,o+m*14+7,none⟩) hb).trans (hc m 7 hlt (by omega))
      have c8:=(hB.cell (p:=⟨b,o+m*14+8,none⟩) hb).trans (hc m 8 hlt (by omega))
      have c9:=(hB.cell (p:=⟨b,o+m*14+9,none⟩) hb).trans (hc m 9 hlt (by omega))
      have c10:=(hB.cell (p:=⟨b,o+m*14+10,none⟩) hb).trans (hc m 10 hlt (by omega))
      have c11:=(hB.cell (p:=⟨b,o+m*14+11,none⟩) hb).trans (hc m 11 hlt (by omega))
      have c12:=(hB.cell (p:=⟨b,o+m*14+12,none⟩) hb).trans (hc m 12 hlt (by omega))
      have c13:=(hB.cell (p:=⟨b,o+m*14+13,none⟩) hb).trans (hc m 13 hlt (by omega))
      clear hc
      rw [← numsHand_ok k m 0 (by omega)] at c0
      rw [← numsHand_ok k m 1 (by omega)] at c1
      rw [← numsHand_ok k m 2 (by omega)] at c2
      rw [← numsHand_ok k m 3 (by omega)] at c3
      rw [← numsHand_ok k m 4 (by omega)] at c4
      rw [← numsHand_ok k m 5 (by omega)] at c5
      rw [← numsHand_ok k m 6 (by omega)] at c6
      rw [← numsHand_ok k m 7 (by omega)] at c7
      rw [← numsHand_ok k m 8 (by omega)] at c8
      rw [← numsHand_ok k m 9 (by omega)] at c9
      rw [← numsHand_ok k m 10 (by omega)] at c10
      rw [← numsHand_ok k m 11 (by omega)] at c11
      rw [← numsHand_ok k m 12 (by omega)] at c12
      rw [← numsHand_ok k m 13 (by omega)] at c13
      simp only [numsHand,Nat.add_zero] at c0 c1 c2 c3 c4 c5 c6 c7 c8 c9 c10 c11 c12 c13
      have hk0:(0:Int)≤(m:Int):=by omega
      have hk1:(m:Int)<(n:Int):=by omega
      go_wp2
      go_roundw
      case rel=>exact ⟨m+1,by omega,by go_num,by go_num,by exact zB⟩
      case measure=>simp [intOf];omega
    · have:m=n:=by omega
      subst this
      go_wp2
      go_ret
      exact ⟨rfl,hB⟩
set_option maxHeartbeats 400000 in
theorem szHandS_any (n:Nat) (a:Option Addr) (cap:Nat) (left:Int) (w:World) (h0:0≤left) (h1:left≤1048576) (hm:n≤maxLen) :
    Calls Try.prog 12 #[.slice a n cap,.int .i64 left] w fun r w'=>r=.returned (.int .i64 (if left<n then -1 else left - n))∧w=w':=by
  unfold maxLen at hm
  by_cases h:left<n
  · have hn:left - n<0:=by omega
    rw [if_pos h]
    clear h
    go_enter Try.func12,Try.ntmps12
    go_wp2
    go_ret
    exact ⟨rfl,rfl⟩
  · have hn:¬ left - n<0:=by omega
    rw [if_neg h]
    go_enter Try.func12,Try.ntmps12
    go_wp2
    go_ret
    exact ⟨rfl,rfl⟩
end Go.Proofs.Ytmnpgkcdfielbaa
