/-
  Worlds whose lists are the call's own; no condition.
  The laws' helpers that lay out a list of hands anew and that compare two; lists of at most 1048576 elements.
  The laws' helpers that lay out a list of deals anew and that compare two; lists of at most 1048576 elements.
  The laws' helpers that write numbers into lists of Hands of the call's own and look for them, and count them; lists of at most 1048576 elements.
  The laws' helpers that write numbers into lists of Deals of the call's own and look for them, and count them; lists of at most 1048576 elements.
  The laws' helpers that lay out a world anew, that compare two, and that count one; lists of at most 1048576 elements.
-/
import Derived.Test.YtmnpgkcdfielbaaGreatP16
import Derived.Test.YtmnpgkcdfielbaaGreatP03
set_option linter.unusedSimpArgs false
set_option linter.unusedVariables false
namespace Go.Proofs.YtmnpgkcdfielbaaGreat
open Go.RowKit
set_option linter.unusedSimpArgs false
/-- The lists of a world, of the call's own. -/
def WOwn (w':World) (lo:Nat) (v1 v2 v3 v4:Value) (x:Wo):Prop:=OCells w' lo v1 x.ch.cells∧OInts w' lo v2 x.ch.words∧OHands w' lo v3 x.hands∧ODeals w' lo v4 x.deals
/-- Storing a hand whole, as one word. -/
def SHand (x v:Value):Sem Unit:=Instr.storeAt 70 x v
theorem toSHand (x v:Value):Instr.storeAt 70 x v=SHand x v:=by unfold SHand;simp
theorem runSHand {w:World} {b:Nat} (x:Ha) (h:okO 14 (hp w b)=true):(SHand (.pointer (some ⟨b,0,none⟩)) (.agg (hvals x))).run Tryz.prog w=.ok () (setBox w b (hvals x)):=storeHand x h
/-- A hand is laid into a list. -/
def setElem (w:World) (b o:Nat) (x:Ha):World :=
  (((((((((((((w.setCell ⟨b,o+0,none⟩ (.int .i64 x.pos)).setCell ⟨b,o+1,none⟩ (.int .i64 x.code)).setCell ⟨b,o+2,none⟩ (.int .i64 x.elem)).setCell ⟨b,o+3,none⟩ (.int .i64 x.cell)).setCell ⟨b,o+4,none⟩ (.int .i64 x.seen)).setCell ⟨b,o+5,none⟩ (.int .i64 x.wait)).setCell ⟨b,o+6,none⟩ (.int .i64 x.fin)).setCell ⟨b,o+7,none⟩ (.int .i64 x.come)).setCell ⟨b,o+8,none⟩ (.int .i64 x.grow)).setCell ⟨b,o+9,none⟩ (.int .i64 x.mine)).setCell ⟨b,o+10,none⟩ (.int .i64 x.nxt)).setCell ⟨b,o+11,none⟩ (.int .i64 x.beg)).setCell ⟨b,o+12,none⟩ (.int .i64 x.reply)).setCell ⟨b,o+13,none⟩ (.int .i64 x.out)
set_option maxRecDepth 100000 in
set_option maxHeartbeats 4000000 in
theorem stHandE {w:World} {b o:Nat} (x:Ha) (h:∀ j,j<14→∃ v,w.cell? ⟨b,o+j,none⟩=some v) (hf:∀ j,w.frozen? ⟨b,j,none⟩=false):(SHand (.pointer (some ⟨b,o,none⟩)) (.agg (hvals x))).run Tryz.prog w=.ok () (setElem w b o x):=by
  obtain ⟨u0,h0⟩:=h 0 (by omega)
  obtain ⟨u1,h1⟩:=h 1 (by omega)
  obtain ⟨u2,h2⟩:=h 2 (by omega)
  obtain ⟨u3,h3⟩:=h 3 (by omega)
  obtain ⟨u4,h4⟩:=h 4 (by omega)
  obtain ⟨u5,h5⟩:=h 5 (by omega)
  obtain ⟨u6,h6⟩:=h 6 (by omega)
  obtain ⟨u7,h7⟩:=h 7 (by omega)
  obtain ⟨u8,h8⟩:=h 8 (by omega)
  obtain ⟨u9,h9⟩:=h 9 (by omega)
  obtain ⟨u10,h10⟩:=h 10 (by omega)
  obtain ⟨u11,h11⟩:=h 11 (by omega)
  obtain ⟨u12,h12⟩:=h 12 (by omega)
  obtain ⟨u13,h13⟩:=h 13 (by omega)
  simp only [Nat.add_zero] at h0
  simp [SHand,hvals,go_sem,setElem, *]
theorem setElem_gr (w:World) (b o:Nat) (x:Ha):w.grownBy (setElem w b o x) (some b):=by
  unfold setElem
  repeat (first|with_reducible exact gR _ _|with_reducible refine gS ?_ (.inl rfl))
theorem setElem_size (w:World) (b o:Nat) (x:Ha):(setElem w b o x).heap.size=w.heap.size:=by simp [setElem]
theorem flatH_set:∀ (hs:List Ha) (i:Nat) (x:Ha),i<hs.length →
    flatH (hs.set i x)=(((((((((((((((flatH hs).set (i*14+0) (.int .i64 x.pos)).set (i*14+1) (.int .i64 x.code)).set (i*14+2) (.int .i64 x.elem)).set (i*14+3) (.int .i64 x.cell)).set (i*14+4) (.int .i64 x.seen)).set (i*14+5) (.int .i64 x.wait)).set (i*14+6) (.int .i64 x.fin)).set (i*14+7) (.int .i64 x.come)).set (i*14+8) (.int .i64 x.grow)).set (i*14+9) (.int .i64 x.mine)).set (i*14+10) (.int .i64 x.nxt)).set (i*14+11) (.int .i64 x.beg)).set (i*14+12) (.int .i64 x.reply)).set (i*14+13) (.int .i64 x.out)):=by
  intro hs i x hi
  apply List.ext_getElem?
  intro n
  by_cases hn:n<hs.length*14
  · have e:n=n / 14*14+n % 14:=by omega
    have h1:=flatH_get (hs.set i x) (n / 14) (n % 14) (by simp;omega) (by omega)
    have h2:=flatH_get hs (n / 14) (n % 14) (by omega) (by omega)
    rw [← e] at h1 h2
    rw [h1]
    by_cases hq:n / 14=i
    · subst hq
      have hr:n % 14=0∨n % 14=1∨n % 14=2∨n % 14=3∨n % 14=4∨n % 14=5∨n % 14=6∨n % 14=7∨n % 14=8∨n % 14=9∨n % 14=10∨n % 14=11∨n % 14=12∨n % 14=13:=by omega
      have hl:=flatH_len hs
      rcases hr with hr|hr|hr|hr|hr|hr|hr|hr|hr|hr|hr|hr|hr|hr
      all_goals (rw [hr] at e ⊢;simp only [List.getElem?_set,List.length_set];simp (disch:=omega) only [if_neg,if_pos,handF,List.getD_eq_getElem?_getD,List.getElem?_set,hvals,Array.getD];simp [hi,hl,hvals,handF,Array.getD])
    · simp only [List.getElem?_set,List.length_set]
      simp (disch:=omega) only [if_neg]
      rw [h2]
      simp [handF,List.getD,List.getElem?_set,Ne.symm hq]
  · rw [List.getElem?_eq_none (by rw [flatH_len];simp;omega),List.getElem?_eq_none (by simp [flatH_len];omega)]
theorem OHands.open1 {w:World} {lo:Nat} {v:Value} {hs:List Ha} (h:OHands w lo v hs) {i:Nat} (hi:i<hs.length) :
    ∃ g cap,v=.slice (some ⟨g,0,none⟩) hs.length cap∧lo≤g∧g<w.heap.size∧(∀ j,j<14→w.cell? ⟨g,i*14+j,none⟩=some ((hvals (hs.getD i Ha.zero)).getD j (.int .i64 0)))∧∀ o,w.frozen? ⟨g,o,none⟩=false:=by
  have h2:=h
  rcases h.2 with ⟨_,h0⟩|⟨g,cap,cur,rfl,hl,hg,_⟩
  · omega
  · refine ⟨g,cap,rfl,hl,(Array.getElem?_eq_some_iff.1 hg).1,fun j hj=>?_,fun o=>by simp [World.frozen?,hg]⟩
    have:=h2.cells (g:=g) rfl (i*14+j) _ (flatH_get hs i j hi hj)
    rw [show (hvals (hs.getD i Ha.zero)).getD j (.int .i64 0)=handF hs i j from rfl,← this]
    congr 1
    by_cases e:i*14+j=0 <;> simp [Addr.add,e] <;> omega
theorem OHands.set {w:World} {lo g cap:Nat} {hs:List Ha} (h:OHands w lo (.slice (some ⟨g,0,none⟩) hs.length cap) hs) {i:Nat} (hi:i<hs.length) (x:Ha) :
    OHands (setElem w g (i*14) x) lo (.slice (some ⟨g,0,none⟩) hs.length cap) (hs.set i x):=by
  have hl:=flatH_len hs
  unfold OHands setElem
  rw [flatH_set hs i x hi,List.length_set]
  iterate 14 (refine own_set_cell ?_ _ (by (try simp only [List.length_set]);omega) _)
  exact h
end Go.Proofs.YtmnpgkcdfielbaaGreat
set_option linter.unusedSimpArgs false
set_option linter.unusedVariables false
namespace Go.Proofs.YtmnpgkcdfielbaaGreat
open Go.RowKit
set_option linter.unusedSimpArgs false
theorem bel_setelem {lo b o:Nat} {w W:World} {x:Ha} (h:Below lo w W) (hl:lo≤W.heap.size) (hb:lo≤b):Below lo w (setElem W b o x):=bOwn h (setElem_gr W b o x) hl (fun k hk=>by simp at hk;omega)
/-- A hand of the laws that lies in a list is loaded whole. -/
theorem ldHandEL {w:World} {b o:Nat} (x:Ha) (h:∀ j,j<14→w.cell? ⟨b,o+j,none⟩=some ((hvals x).getD j (.int .i64 0))):(LHandL (.pointer (some ⟨b,o,none⟩))).run Tryz.prog w=.ok (.agg (hvals x)) w:=by
  have h0:=h 0 (by omega)
  have h1:=h 1 (by omega)
  have h2:=h 2 (by omega)
  have h3:=h 3 (by omega)
  have h4:=h 4 (by omega)
  have h5:=h 5 (by omega)
  have h6:=h 6 (by omega)
  have h7:=h 7 (by omega)
  have h8:=h 8 (by omega)
  have h9:=h 9 (by omega)
  have h10:=h 10 (by omega)
  have h11:=h 11 (by omega)
  have h12:=h 12 (by omega)
  have h13:=h 13 (by omega)
  simp [hvals,Array.getD] at h0 h1 h2 h3 h4 h5 h6 h7 h8 h9 h10 h11 h12 h13
  simp [LHandL,hvals,go_sem, *]
attribute [local simp] bx_size
attribute [local go_sem ↓] zeroHand toLHand toVHand toSHand storeHandC
attribute [local go_sem] runSHand
attribute [local go_sem ↓] toLHandL
theorem mkHands (n:Nat) (h:n≤1048576) (W:World):(Instr.makeSlice 35 (.int .i64 n) (.int .i64 n)).run Tryz.prog W=.ok (.slice (some ⟨W.heap.size,0,none⟩) n n) (W.alloc (.cells (madeCells (hvals Ha.zero) (n*14)) 70)):=by
  obtain ⟨i,hi,hz,hs,hb⟩:=info_parts infoHandE
  have:=run_make (P:=Tryz.prog) W 35 70 i _ Tryz.underlying35 hi hz .i64 .i64 n n (by omega) (by omega) (by rw [hb];omega) (by omega)
  rw [this,hs]
  simp [Value.cells]
theorem Row.setElem {w:World} {b n:Nat} {t:TypeId} {f:Nat→Nat→Value} (h:Row w b t n 14 f) {i:Nat} (hi:i<n) (x:Ha):Row (setElem w b (i*14) x) b t n 14 (fun i' j'=>if i'=i then (hvals x).getD j' (.int .i64 0) else f i' j'):=h.set14 hi (fun j=>(hvals x).getD j (.int .i64 0))
set_option maxRecDepth 100000 in
set_option maxHeartbeats 4000000 in
theorem toHandS_any (xs:List Ha) (a:Option Addr) (cap:Nat) (w:World) (h:Seg w w.heap.size a xs.length 14 (handF xs)) (hm:xs.length≤1048576) :
    Calls Tryz.prog 19 #[.slice a xs.length cap] w fun r w'=>r=.returned (.slice (some ⟨w.heap.size,0,none⟩) xs.length xs.length)∧Row w' w.heap.size 70 xs.length 14 (handF xs)∧Below w.heap.size w w':=by
  have HS:=Lib.hid h
  clear h
  have hmk:=mkHands xs.length hm
  have hR0:=(Row.made w (hvals Ha.zero) xs.length 70).congr (g:=partN (handF xs) (fun _ j=>(hvals Ha.zero)[j]!) 0) (fun i j _ hj=>by rw [partN_0])
  go_enter Tryz.func19,Tryz.ntmps19
  go_wp2
  go_loopw [4] (fun i wr=>∃ k:Nat,k≤xs.length∧i=.int .i64 k∧Row wr w.heap.size 70 xs.length 14 (partN (handF xs) (fun _ j=>(hvals Ha.zero)[j]!) k)∧Below w.heap.size w wr) (fun i _=>xs.length - (intOf i).toNat)
  case atStart=>exact ⟨0,Nat.zero_le _,rfl,hR0,(Below.refl _ _).alloc (Nat.le_refl _) _⟩
  case round =>
    obtain ⟨k,hk,rfl,hR,hB⟩:=hrel
    have hs:=hB.size
    have hl:=hR.lt
    by_cases hlt:k<xs.length
    · obtain h0|⟨b,o,rfl,hb,hc⟩:=HS.out
      · omega
      have hLd:=ldHandEL (w:=wr) (b:=b) (o:=o+k*14) (xs.getD k Ha.zero) (fun j hj=>(hB.cell (p:=⟨b,o+k*14+j,none⟩) hb).trans (hc k j hlt hj))
      clear hc
      generalize hcg:xs.getD k Ha.zero=x at hLd
      have HC:=Lib.hid hcg
      clear hcg
      go_wp2_with ((go_at_call 41;refine (toHand_any _ _).mono ?_;rintro _ w1 ⟨rfl,hbw1⟩;have hBw1:Below w.heap.size w w1:=bT (by exact zB) hbw1;have hsw1:=hbw1.size;(try (simp at hsw1)));have hR1:=hR.below hbw1 hl;have hst:=stHandE (w:=w1) (b:=w.heap.size) (o:=k*14) x (fun j hj=>⟨_,hR1.cell hlt hj⟩) hR1.frozen)
      go_roundw
      case rel=>exact ⟨k+1,by omega,by go_num,(hR1.setElem hlt x).congr (fun i j _ _=>partN_step (v:=fun j=>(hvals x).getD j (.int .i64 0)) (by show _=(hvals (xs.getD k Ha.zero)).getD j (.int .i64 0);rw [HC.out]) i),bel_setelem hBw1 (by omega) (by omega)⟩
      case measure=>simp [intOf];omega
    · have:k=xs.length:=by omega
      subst this
      go_wp2
      go_ret
      exact ⟨rfl,hR.congr (partN_end _ _ _ 14),hB⟩
set_option maxRecDepth 100000 in
set_option maxHeartbeats 4000000 in
theorem eqHandS_any (xs:List Ha) (a a':Option Addr) (cap cap':Nat) (w:World) (h:Seg w w.heap.size a xs.length 14 (handF xs)) (h':Seg w w.heap.size a' xs.length 14 (handF xs)) (hm:xs.length≤1048576) :
    Calls Tryz.prog 24 #[.slice a xs.length cap,.slice a' xs.length cap'] w fun r w'=>r=.returned (.bool true)∧Below w.heap.size w w':=by
  have HS:=Lib.hid h
  have HS':=Lib.hid h'
  clear h h'
  go_enter Tryz.func24,Tryz.ntmps24
  go_wp2
  go_loopw [5] (fun i wr=>∃ k:Nat,k≤xs.length∧i=.int .i64 k∧Below w.heap.size w wr) (fun i _=>xs.length - (intOf i).toNat)
  case atStart=>exact ⟨0,Nat.zero_le _,rfl,Below.refl _ _⟩
  case round =>
    obtain ⟨k,hk,rfl,hB⟩:=hrel
    have hs:=hB.size
    by_cases hlt:k<xs.length
    · obtain h0|⟨b,o,rfl,hb,hc⟩:=HS.out
      · omega
      obtain h0|⟨b',o',rfl,hb',hc'⟩:=HS'.out
      · omega
      have hLd:=ldHandE (w:=wr.drew) (b:=b) (o:=o+k*14) (xs.getD k Ha.zero) (fun j hj=>(hB.cell (p:=⟨b,o+k*14+j,none⟩) hb).trans (hc k j hlt hj))
      have hLd':=ldHandE (w:=wr.drew) (b:=b') (o:=o'+k*14) (xs.getD k Ha.zero) (fun j hj=>(hB.cell (p:=⟨b',o'+k*14+j,none⟩) hb').trans (hc' k j hlt hj))
      clear hc hc'
      generalize xs.getD k Ha.zero=x at hLd hLd'
      have hk0:(0:Int)≤(k:Int):=by omega
      have hk1:(k:Int)<(xs.length:Int):=by omega
      go_wp2_with fail
      go_still_tail 8,(by kernel_rfl)
      go_wp2_with (go_at_call 50;refine (eqHand_any _ _).mono ?_;rintro _ w1 ⟨rfl,hbw1⟩;have hBw1:Below w.heap.size w w1:=bT (by exact zB) hbw1;have hsw1:=hbw1.size;(try (simp at hsw1)))
      go_roundw
      case rel=>exact ⟨k+1,by omega,by go_num,by exact zB⟩
      case measure=>simp [intOf];omega
    · have:k=xs.length:=by omega
      subst this
      go_wp2
      go_ret
      exact ⟨rfl,hB⟩
end Go.Proofs.YtmnpgkcdfielbaaGreat
set_option linter.unusedSimpArgs false
set_option linter.unusedVariables false
namespace Go.Proofs.YtmnpgkcdfielbaaGreat
open Go.RowKit
set_option linter.unusedSimpArgs false
/-- Loading whole, as one word. -/
def LDeal (x:Value):Sem Value:=Instr.loadAt 72 x
theorem toLDeal (x:Value):Instr.loadAt 72 x=LDeal x:=by unfold LDeal;simp
theorem ldDealE {w:World} {b o:Nat} (x:De) (h:∀ j,j<7→w.cell? ⟨b,o+j,none⟩=some ((dvals x).getD j (.int .i64 0))):(LDeal (.pointer (some ⟨b,o,none⟩))).run Tryz.prog w=.ok (.agg (dvals x)) w:=by
  have h0:=h 0 (by omega)
  have h1:=h 1 (by omega)
  have h2:=h 2 (by omega)
  have h3:=h 3 (by omega)
  have h4:=h 4 (by omega)
  have h5:=h 5 (by omega)
  have h6:=h 6 (by omega)
  simp [dvals,Array.getD] at h0 h1 h2 h3 h4 h5 h6
  simp [LDeal,dvals,go_sem, *]
/-- Loading whole, as one word. -/
def LDealL (x:Value):Sem Value:=Instr.loadAt 84 x
theorem toLDealL (x:Value):Instr.loadAt 84 x=LDealL x:=by unfold LDealL;simp
theorem ldDealEL {w:World} {b o:Nat} (x:De) (h:∀ j,j<7→w.cell? ⟨b,o+j,none⟩=some ((dvals x).getD j (.int .i64 0))):(LDealL (.pointer (some ⟨b,o,none⟩))).run Tryz.prog w=.ok (.agg (dvals x)) w:=by
  have h0:=h 0 (by omega)
  have h1:=h 1 (by omega)
  have h2:=h 2 (by omega)
  have h3:=h 3 (by omega)
  have h4:=h 4 (by omega)
  have h5:=h 5 (by omega)
  have h6:=h 6 (by omega)
  simp [dvals,Array.getD] at h0 h1 h2 h3 h4 h5 h6
  simp [LDealL,dvals,go_sem, *]
/-- Storing a deal whole, as one word. -/
def SDeal (x v:Value):Sem Unit:=Instr.storeAt 72 x v
theorem toSDeal (x v:Value):Instr.storeAt 72 x v=SDeal x v:=by unfold SDeal;simp
/-- A deal is laid into a list. -/
def setDeal (w:World) (b o:Nat) (x:De):World :=
  (((((((w.setCell ⟨b,o+0,none⟩ (.int .i64 x.task)).setCell ⟨b,o+1,none⟩ (.int .i64 x.code)).setCell ⟨b,o+2,none⟩ (.int .i64 x.elem)).setCell ⟨b,o+3,none⟩ (.int .i64 x.beg)).setCell ⟨b,o+4,none⟩ (.int .i64 x.fin)).setCell ⟨b,o+5,none⟩ (.int .i64 x.reply)).setCell ⟨b,o+6,none⟩ (.int .i64 x.out))
set_option maxRecDepth 100000 in
set_option maxHeartbeats 4000000 in
theorem stDealE {w:World} {b o:Nat} (x:De) (h:∀ j,j<7→∃ v,w.cell? ⟨b,o+j,none⟩=some v) (hf:∀ j,w.frozen? ⟨b,j,none⟩=false):(SDeal (.pointer (some ⟨b,o,none⟩)) (.agg (dvals x))).run Tryz.prog w=.ok () (setDeal w b o x):=by
  obtain ⟨u0,h0⟩:=h 0 (by omega)
  obtain ⟨u1,h1⟩:=h 1 (by omega)
  obtain ⟨u2,h2⟩:=h 2 (by omega)
  obtain ⟨u3,h3⟩:=h 3 (by omega)
  obtain ⟨u4,h4⟩:=h 4 (by omega)
  obtain ⟨u5,h5⟩:=h 5 (by omega)
  obtain ⟨u6,h6⟩:=h 6 (by omega)
  simp only [Nat.add_zero] at h0
  simp [SDeal,dvals,go_sem,setDeal, *]
theorem setDeal_gr (w:World) (b o:Nat) (x:De):w.grownBy (setDeal w b o x) (some b):=by
  unfold setDeal
  repeat (first|with_reducible exact gR _ _|with_reducible refine gS ?_ (.inl rfl))
theorem bel_setdeal {lo b o:Nat} {w W:World} {x:De} (h:Below lo w W) (hl:lo≤W.heap.size) (hb:lo≤b):Below lo w (setDeal W b o x):=bOwn h (setDeal_gr W b o x) hl (fun k hk=>by simp at hk;omega)
set_option maxRecDepth 100000 in
set_option maxHeartbeats 4000000 in
theorem toDeal_any (x:De) (w:World):Calls Tryz.prog 42 #[.agg (dvals x)] w fun r w'=>r=.returned (.agg (dvals x))∧Below w.heap.size w w':=by
  obtain ⟨xt,xc,xe,xb,xf,xr,xo⟩:=x
  simp only [dvals]
  go_enter Tryz.func42,Tryz.ntmps42
  go_wp2_with fail;refine bHit w (by exact zB) fun bb=>?_;refine (toCall_whole xc xe _).mono ?_;rintro _ w1 ⟨rfl,hbw1⟩;have hCw1:Below w.heap.size w w1:=bT bb hbw1;have hsw1:=hbw1.size;(try simp at hsw1);have zz:=And.intro (hQ hbw1 (b:=w.heap.size+1+1)) <| And.intro (hQ hbw1 (b:=w.heap.size+1)) <| hQ hbw1 (b:=w.heap.size);(try simp [go_sem] at zz);(try clear z_wpp x_wpp f_wpp l_wpp);(try clear z_wp x_wp f_wp l_wp);(try clear z_w x_w f_w l_w);obtain ⟨z_wpp,z_wp,z_w⟩:=zz;obtain ⟨x_wpp,f_wpp,l_wpp⟩:=bO z_wpp;obtain ⟨x_wp,f_wp,l_wp⟩:=bO z_wp;obtain ⟨x_w,f_w,l_w⟩:=bO z_w;clear hbw1 bb
  go_wp2
  exact bodyPost_ret (v:=.agg #[.int .i64 xt,.int .i64 xc,.int .i64 xe,.int .i64 xb,.int .i64 xf,.int .i64 xr,.int .i64 xo]) (by simp [results,Tryz.results42,go_sem, *]) rfl ⟨rfl,by exact zB⟩
set_option maxRecDepth 100000 in
set_option maxHeartbeats 4000000 in
theorem eqDeal_any (x:De) (w:World):Calls Tryz.prog 51 #[.agg (dvals x),.agg (dvals x)] w fun r w'=>r=.returned (.bool true)∧Below w.heap.size w w':=by
  obtain ⟨xt,xc,xe,xb,xf,xr,xo⟩:=x
  simp only [dvals]
  go_enter Tryz.func51,Tryz.ntmps51
  go_wp2_with ((go_at_call 69;refine (eqCall_self _ _ _).mono ?_;rintro _ w1 ⟨rfl,hbw1⟩;have hBw1:Below w.heap.size w w1:=bT (by exact zB) hbw1;have hsw1:=hbw1.size;(try (simp at hsw1));have:=fun o=>hbw1.cell (p:=⟨w.heap.size,o,none⟩) (by ((try simp);(try omega)));have:=fun o=>hbw1.frozen (p:=⟨w.heap.size,o,none⟩) (by ((try simp);(try omega)));have:=fun o=>hbw1.cell (p:=⟨w.heap.size+1,o,none⟩) (by ((try simp);(try omega)));have:=fun o=>hbw1.frozen (p:=⟨w.heap.size+1,o,none⟩) (by ((try simp);(try omega)));have:w.heap.size<w1.heap.size:=(by omega);have:w.heap.size≤w1.heap.size:=(by omega);have:w.heap.size≤w1.heap.size+1:=(by omega);have:w.heap.size+1<w1.heap.size:=(by omega);have:w.heap.size+1≤w1.heap.size:=(by omega);have:w.heap.size+1≤w1.heap.size+1:=(by omega)))
  all_goals go_ret
  all_goals exact ⟨rfl,by exact zB⟩
attribute [local go_sem ↓] toLDeal toLDealL toSDeal
theorem mkDeals (n:Nat) (h:n≤1048576) (W:World):(Instr.makeSlice 36 (.int .i64 n) (.int .i64 n)).run Tryz.prog W=.ok (.slice (some ⟨W.heap.size,0,none⟩) n n) (W.alloc (.cells (madeCells (dvals De.zero) (n*7)) 72)):=by
  obtain ⟨i,hi,hz,hs,hb⟩:=info_parts infoDealE
  have:=run_make (P:=Tryz.prog) W 36 72 i _ Tryz.underlying36 hi hz .i64 .i64 n n (by omega) (by omega) (by rw [hb];omega) (by omega)
  rw [this,hs]
  simp [Value.cells]
theorem Row.setDeal {w:World} {b n:Nat} {t:TypeId} {f:Nat→Nat→Value} (h:Row w b t n 7 f) {i:Nat} (hi:i<n) (x:De):Row (setDeal w b (i*7) x) b t n 7 (fun i' j'=>if i'=i then (dvals x).getD j' (.int .i64 0) else f i' j'):=h.set7 hi (fun j=>(dvals x).getD j (.int .i64 0))
set_option maxRecDepth 100000 in
set_option maxHeartbeats 4000000 in
theorem toDealS_any (xs:List De) (a:Option Addr) (cap:Nat) (w:World) (h:Seg w w.heap.size a xs.length 7 (dealF xs)) (hm:xs.length≤1048576) :
    Calls Tryz.prog 20 #[.slice a xs.length cap] w fun r w'=>r=.returned (.slice (some ⟨w.heap.size,0,none⟩) xs.length xs.length)∧Row w' w.heap.size 72 xs.length 7 (dealF xs)∧Below w.heap.size w w':=by
  have HS:=Lib.hid h
  clear h
  have hmk:=mkDeals xs.length hm
  have hR0:=(Row.made w (dvals De.zero) xs.length 72).congr (g:=partN (dealF xs) (fun _ j=>(dvals De.zero)[j]!) 0) (fun i j _ hj=>by rw [partN_0])
  go_enter Tryz.func20,Tryz.ntmps20
  go_wp2
  go_loopw [4] (fun i wr=>∃ k:Nat,k≤xs.length∧i=.int .i64 k∧Row wr w.heap.size 72 xs.length 7 (partN (dealF xs) (fun _ j=>(dvals De.zero)[j]!) k)∧Below w.heap.size w wr) (fun i _=>xs.length - (intOf i).toNat)
  case atStart=>exact ⟨0,Nat.zero_le _,rfl,hR0,(Below.refl _ _).alloc (Nat.le_refl _) _⟩
  case round =>
    obtain ⟨k,hk,rfl,hR,hB⟩:=hrel
    have hs:=hB.size
    have hl:=hR.lt
    by_cases hlt:k<xs.length
    · obtain h0|⟨b,o,rfl,hb,hc⟩:=HS.out
      · omega
      have hLd:=ldDealEL (w:=wr) (b:=b) (o:=o+k*7) (xs.getD k De.zero) (fun j hj=>(hB.cell (p:=⟨b,o+k*7+j,none⟩) hb).trans (hc k j hlt hj))
      clear hc
      generalize hcg:xs.getD k De.zero=x at hLd
      have HC:=Lib.hid hcg
      clear hcg
      go_wp2_with ((go_at_call 42;refine (toDeal_any _ _).mono ?_;rintro _ w1 ⟨rfl,hbw1⟩;have hBw1:Below w.heap.size w w1:=bT (by exact zB) hbw1;have hsw1:=hbw1.size;(try (simp at hsw1)));have hR1:=hR.below hbw1 hl;have hst:=stDealE (w:=w1) (b:=w.heap.size) (o:=k*7) x (fun j hj=>⟨_,hR1.cell hlt hj⟩) hR1.frozen)
      go_roundw
      case rel=>exact ⟨k+1,by omega,by go_num,(hR1.setDeal hlt x).congr (fun i j _ _=>partN_step (v:=fun j=>(dvals x).getD j (.int .i64 0)) (by show _=(dvals (xs.getD k De.zero)).getD j (.int .i64 0);rw [HC.out]) i),bel_setdeal hBw1 (by omega) (by omega)⟩
      case measure=>simp [intOf];omega
    · have:k=xs.length:=by omega
      subst this
      go_wp2
      go_ret
      exact ⟨rfl,hR.congr (partN_end _ _ _ 7),hB⟩
set_option maxRecDepth 100000 in
set_option maxHeartbeats 4000000 in
theorem eqDealS_any (xs:List De) (a a':Option Addr) (cap cap':Nat) (w:World) (h:Seg w w.heap.size a xs.length 7 (dealF xs)) (h':Seg w w.heap.size a' xs.length 7 (dealF xs)) (hm:xs.length≤1048576) :
    Calls Tryz.prog 25 #[.slice a xs.length cap,.slice a' xs.length cap'] w fun r w'=>r=.returned (.bool true)∧Below w.heap.size w w':=by
  have HS:=Lib.hid h
  have HS':=Lib.hid h'
  clear h h'
  go_enter Tryz.func25,Tryz.ntmps25
  go_wp2
  go_loopw [5] (fun i wr=>∃ k:Nat,k≤xs.length∧i=.int .i64 k∧Below w.heap.size w wr) (fun i _=>xs.length - (intOf i).toNat)
  case atStart=>exact ⟨0,Nat.zero_le _,rfl,Below.refl _ _⟩
  case round =>
    obtain ⟨k,hk,rfl,hB⟩:=hrel
    have hs:=hB.size
    by_cases hlt:k<xs.length
    · obtain h0|⟨b,o,rfl,hb,hc⟩:=HS.out
      · omega
      obtain h0|⟨b',o',rfl,hb',hc'⟩:=HS'.out
      · omega
      have hLd:=ldDealE (w:=wr.drew) (b:=b) (o:=o+k*7) (xs.getD k De.zero) (fun j hj=>(hB.cell (p:=⟨b,o+k*7+j,none⟩) hb).trans (hc k j hlt hj))
      have hLd':=ldDealE (w:=wr.drew) (b:=b') (o:=o'+k*7) (xs.getD k De.zero) (fun j hj=>(hB.cell (p:=⟨b',o'+k*7+j,none⟩) hb').trans (hc' k j hlt hj))
      clear hc hc'
      generalize xs.getD k De.zero=x at hLd hLd'
      have hk0:(0:Int)≤(k:Int):=by omega
      have hk1:(k:Int)<(xs.length:Int):=by omega
      go_wp2_with fail
      go_still_tail 8,(by kernel_rfl)
      go_wp2_with (go_at_call 51;refine (eqDeal_any _ _).mono ?_;rintro _ w1 ⟨rfl,hbw1⟩;have hBw1:Below w.heap.size w w1:=bT (by exact zB) hbw1;have hsw1:=hbw1.size;(try (simp at hsw1)))
      go_roundw
      case rel=>exact ⟨k+1,by omega,by go_num,by exact zB⟩
      case measure=>simp [intOf];omega
    · have:k=xs.length:=by omega
      subst this
      go_wp2
      go_ret
      exact ⟨rfl,hB⟩
end Go.Proofs.YtmnpgkcdfielbaaGreat
set_option linter.unusedSimpArgs false
set_option linter.unusedVariables false
namespace Go.Proofs.YtmnpgkcdfielbaaGreat
open Go.RowKit
def numsHand (k:Int) (m:Nat):Nat→Value
  | 0=>.int .i64 (k+14*(m:Int))
  | 1=>.int .i64 (k+14*(m:Int)+1)
  | 2=>.int .i64 (k+14*(m:Int)+1+1)
  | 3=>.int .i64 (k+14*(m:Int)+1+1+1)
  | 4=>.int .i64 (k+14*(m:Int)+1+1+1+1)
  | 5=>.int .i64 (k+14*(m:Int)+1+1+1+1+1)
  | 6=>.int .i64 (k+14*(m:Int)+1+1+1+1+1+1)
  | 7=>.int .i64 (k+14*(m:Int)+1+1+1+1+1+1+1)
  | 8=>.int .i64 (k+14*(m:Int)+1+1+1+1+1+1+1+1)
  | 9=>.int .i64 (k+14*(m:Int)+1+1+1+1+1+1+1+1+1)
  | 10=>.int .i64 (k+14*(m:Int)+1+1+1+1+1+1+1+1+1+1)
  | 11=>.int .i64 (k+14*(m:Int)+1+1+1+1+1+1+1+1+1+1+1)
  | 12=>.int .i64 (k+14*(m:Int)+1+1+1+1+1+1+1+1+1+1+1+1)
  | _=>.int .i64 (k+14*(m:Int)+1+1+1+1+1+1+1+1+1+1+1+1+1)
theorem numsHand_ok (k:Int) (m:Nat):∀ j,j<14→numsHand k m j=numF 14 k m j:=by
  intro j hj
  have:j=0∨j=1∨j=2∨j=3∨j=4∨j=5∨j=6∨j=7∨j=8∨j=9∨j=10∨j=11∨j=12∨j=13:=by omega
  rcases this with rfl|rfl|rfl|rfl|rfl|rfl|rfl|rfl|rfl|rfl|rfl|rfl|rfl|rfl <;> (simp only [numsHand,numF];congr 1 <;> omega)
set_option maxRecDepth 100000 in
set_option maxHeartbeats 4000000 in
theorem markHandS_any (n:Nat) (f:Nat→Nat→Value) (lo:Nat) (v:Value) (k:Int) (w:World) (h:New w lo v n 14 f) (h0:0≤k) (h1:k≤1099511627776) (hm:n≤1048576) :
    Calls Tryz.prog 27 #[v,.int .i64 k] w fun r w'=>r=.returned (.int .i64 (k+14*n))∧New w' lo v n 14 (numF 14 k)∧w.grownBy w' v.ownBlock:=by
  rcases h with ⟨rfl,rfl⟩|⟨g,cap,rfl,hl,hL⟩
  · go_enter Tryz.func27,Tryz.ntmps27
    go_wp2
    go_loopw [1,5] (fun q i wr=>i=.int .i64 0∧q=.int .i64 k∧wr=w) (fun _ i _=>0 - (intOf i).toNat)
    case atStart=>exact ⟨rfl,rfl,rfl⟩
    case round =>
      obtain ⟨rfl,rfl,rfl⟩:=hrel
      go_wp2
      go_ret
      exact ⟨by simp,.inl ⟨rfl,rfl⟩,grR _ _⟩
  · have hW:=grR w (some g)
    go_enter Tryz.func27,Tryz.ntmps27
    go_wp2
    go_loopw [1,5] (fun q i wr=>∃ m:Nat,m≤n∧i=.int .i64 m∧q=.int .i64 (k+14*m)∧Lie wr g n 14 (partN (numF 14 k) f m)∧w.grownBy wr (some g)) (fun _ i _=>n - (intOf i).toNat)
    case atStart=>exact ⟨0,Nat.zero_le _,rfl,by simp,by rw [partN_0];exact hL,hW⟩
    case round =>
      clear hL hW
      obtain ⟨m,hk,rfl,rfl,hL,hW⟩:=hrel
      by_cases hlt:m<n
      ·
        have e0:=hL.cell hlt (show 0<14 by omega)
        have e1:=hL.cell hlt (show 1<14 by omega)
        have e2:=hL.cell hlt (show 2<14 by omega)
        have e3:=hL.cell hlt (show 3<14 by omega)
        have e4:=hL.cell hlt (show 4<14 by omega)
        have e5:=hL.cell hlt (show 5<14 by omega)
        have e6:=hL.cell hlt (show 6<14 by omega)
        have e7:=hL.cell hlt (show 7<14 by omega)
        have e8:=hL.cell hlt (show 8<14 by omega)
        have e9:=hL.cell hlt (show 9<14 by omega)
        have e10:=hL.cell hlt (show 10<14 by omega)
        have e11:=hL.cell hlt (show 11<14 by omega)
        have e12:=hL.cell hlt (show 12<14 by omega)
        have e13:=hL.cell hlt (show 13<14 by omega)
        simp only [Nat.add_zero] at e0
        have f1:=hL.frozen
        go_wp2
        go_roundw
        case rel=>exact ⟨m+1,by omega,by go_num,by go_num,(hL.set14 hlt (numsHand k m)).congr (fun i j _ hj=>partN_step (numsHand_ok k m j hj) i),(grS (grS (grS (grS (grS (grS (grS (grS (grS (grS (grS (grS (grS (grS hW rfl) rfl) rfl) rfl) rfl) rfl) rfl) rfl) rfl) rfl) rfl) rfl) rfl) rfl)⟩
        case measure=>simp [intOf];omega
      · have:m=n:=by omega
        subst this
        go_wp2
        go_ret
        exact ⟨rfl,.inr ⟨g,cap,rfl,hl,hL.congr (partN_end _ _ m 14)⟩,hW⟩
set_option maxHeartbeats 400000 in
theorem szHandS_any (n:Nat) (a:Option Addr) (cap:Nat) (left:Int) (w:World) (h0:0≤left) (h1:left≤1048576) (hm:n≤maxLen) :
    Calls Tryz.prog 14 #[.slice a n cap,.int .i64 left] w fun r w'=>r=.returned (.int .i64 (if left<n then -1 else left - n))∧w=w':=by
  unfold maxLen at hm
  by_cases h:left<n
  · have hn:left - n<0:=by omega
    rw [if_pos h]
    clear h
    go_enter Tryz.func14,Tryz.ntmps14
    go_wp2
    go_ret
    exact ⟨rfl,rfl⟩
  · have hn:¬ left - n<0:=by omega
    rw [if_neg h]
    go_enter Tryz.func14,Tryz.ntmps14
    go_wp2
    go_ret
    exact ⟨rfl,rfl⟩
end Go.Proofs.YtmnpgkcdfielbaaGreat
set_option linter.unusedSimpArgs false
set_option linter.unusedVariables false
namespace Go.Proofs.YtmnpgkcdfielbaaGreat
open Go.RowKit
def numsDeal (k:Int) (m:Nat):Nat→Value
  | 0=>.int .i64 (k+7*(m:Int))
  | 1=>.int .i64 (k+7*(m:Int)+1)
  | 2=>.int .i64 (k+7*(m:Int)+1+1)
  | 3=>.int .i64 (k+7*(m:Int)+1+1+1)
  | 4=>.int .i64 (k+7*(m:Int)+1+1+1+1)
  | 5=>.int .i64 (k+7*(m:Int)+1+1+1+1+1)
  | _=>.int .i64 (k+7*(m:Int)+1+1+1+1+1+1)
theorem numsDeal_ok (k:Int) (m:Nat):∀ j,j<7→numsDeal k m j=numF 7 k m j:=by
  intro j hj
  have:j=0∨j=1∨j=2∨j=3∨j=4∨j=5∨j=6:=by omega
  rcases this with rfl|rfl|rfl|rfl|rfl|rfl|rfl <;> (simp only [numsDeal,numF];congr 1 <;> omega)
set_option maxRecDepth 100000 in
set_option maxHeartbeats 4000000 in
theorem markDealS_any (n:Nat) (f:Nat→Nat→Value) (lo:Nat) (v:Value) (k:Int) (w:World) (h:New w lo v n 7 f) (h0:0≤k) (h1:k≤1099511627776) (hm:n≤1048576) :
    Calls Tryz.prog 28 #[v,.int .i64 k] w fun r w'=>r=.returned (.int .i64 (k+7*n))∧New w' lo v n 7 (numF 7 k)∧w.grownBy w' v.ownBlock:=by
  rcases h with ⟨rfl,rfl⟩|⟨g,cap,rfl,hl,hL⟩
  · go_enter Tryz.func28,Tryz.ntmps28
    go_wp2
    go_loopw [1,5] (fun q i wr=>i=.int .i64 0∧q=.int .i64 k∧wr=w) (fun _ i _=>0 - (intOf i).toNat)
    case atStart=>exact ⟨rfl,rfl,rfl⟩
    case round =>
      obtain ⟨rfl,rfl,rfl⟩:=hrel
      go_wp2
      go_ret
      exact ⟨by simp,.inl ⟨rfl,rfl⟩,grR _ _⟩
  · have hW:=grR w (some g)
    go_enter Tryz.func28,Tryz.ntmps28
    go_wp2
    go_loopw [1,5] (fun q i wr=>∃ m:Nat,m≤n∧i=.int .i64 m∧q=.int .i64 (k+7*m)∧Lie wr g n 7 (partN (numF 7 k) f m)∧w.grownBy wr (some g)) (fun _ i _=>n - (intOf i).toNat)
    case atStart=>exact ⟨0,Nat.zero_le _,rfl,by simp,by rw [partN_0];exact hL,hW⟩
    case round =>
      clear hL hW
      obtain ⟨m,hk,rfl,rfl,hL,hW⟩:=hrel
      by_cases hlt:m<n
      ·
        have e0:=hL.cell hlt (show 0<7 by omega)
        have e1:=hL.cell hlt (show 1<7 by omega)
        have e2:=hL.cell hlt (show 2<7 by omega)
        have e3:=hL.cell hlt (show 3<7 by omega)
        have e4:=hL.cell hlt (show 4<7 by omega)
        have e5:=hL.cell hlt (show 5<7 by omega)
        have e6:=hL.cell hlt (show 6<7 by omega)
        simp only [Nat.add_zero] at e0
        have f1:=hL.frozen
        go_wp2
        go_roundw
        case rel=>exact ⟨m+1,by omega,by go_num,by go_num,(hL.set7 hlt (numsDeal k m)).congr (fun i j _ hj=>partN_step (numsDeal_ok k m j hj) i),(grS (grS (grS (grS (grS (grS (grS hW rfl) rfl) rfl) rfl) rfl) rfl) rfl)⟩
        case measure=>simp [intOf];omega
      · have:m=n:=by omega
        subst this
        go_wp2
        go_ret
        exact ⟨rfl,.inr ⟨g,cap,rfl,hl,hL.congr (partN_end _ _ m 7)⟩,hW⟩
set_option maxHeartbeats 400000 in
theorem szDealS_any (n:Nat) (a:Option Addr) (cap:Nat) (left:Int) (w:World) (h0:0≤left) (h1:left≤1048576) (hm:n≤maxLen) :
    Calls Tryz.prog 15 #[.slice a n cap,.int .i64 left] w fun r w'=>r=.returned (.int .i64 (if left<n then -1 else left - n))∧w=w':=by
  unfold maxLen at hm
  by_cases h:left<n
  · have hn:left - n<0:=by omega
    rw [if_pos h]
    clear h
    go_enter Tryz.func15,Tryz.ntmps15
    go_wp2
    go_ret
    exact ⟨rfl,rfl⟩
  · have hn:¬ left - n<0:=by omega
    rw [if_neg h]
    go_enter Tryz.func15,Tryz.ntmps15
    go_wp2
    go_ret
    exact ⟨rfl,rfl⟩
end Go.Proofs.YtmnpgkcdfielbaaGreat
set_option linter.unusedSimpArgs false
set_option linter.unusedVariables false
namespace Go.Proofs.YtmnpgkcdfielbaaGreat
open Go.RowKit
set_option linter.unusedSimpArgs false
/-- The lists of a world lie in memory below B. -/
def SegW (w:World) (B:Nat) (x:Wo) (a b d e:Option Addr):Prop:=Seg w B a x.ch.cells.length 3 (cellF x.ch.cells)∧Seg w B b x.ch.words.length 1 (intF x.ch.words)∧Seg w B d x.hands.length 14 (handF x.hands)∧Seg w B e x.deals.length 7 (dealF x.deals)
def LenW (x:Wo):Prop:=x.ch.cells.length≤1048576∧x.ch.words.length≤1048576∧x.hands.length≤1048576∧x.deals.length≤1048576
/-- The lists of a world fill four new blocks. -/
def MadeW (w:World) (lo:Nat) (x:Wo) (g1 g2 g3 g4:Nat):Prop:=(lo≤g1∧lo≤g2∧lo≤g3∧lo≤g4)∧Row w g1 93 x.ch.cells.length 3 (cellF x.ch.cells)∧Row w g2 2 x.ch.words.length 1 (intF x.ch.words)∧Row w g3 70 x.hands.length 14 (handF x.hands)∧Row w g4 72 x.deals.length 7 (dealF x.deals)
theorem SegW.below {w w':World} {B:Nat} {x:Wo} {a b d e:Option Addr} (h:SegW w B x a b d e) (hb:Below B w w'):SegW w' B x a b d e:=⟨h.1.below hb,h.2.1.below hb,h.2.2.1.below hb,h.2.2.2.below hb⟩
theorem SegW.more {w:World} {B B':Nat} {x:Wo} {a b d e:Option Addr} (h:SegW w B x a b d e) (hb:B≤B'):SegW w B' x a b d e:=⟨h.1.more hb,h.2.1.more hb,h.2.2.1.more hb,h.2.2.2.more hb⟩
theorem MadeW.below {w w':World} {lo B:Nat} {x:Wo} {g1 g2 g3 g4:Nat} (h:MadeW w lo x g1 g2 g3 g4) (hb:Below B w w') (hB:w.heap.size≤B):MadeW w' lo x g1 g2 g3 g4:=⟨h.1,h.2.1.below hb (Nat.lt_of_lt_of_le h.2.1.lt hB),h.2.2.1.below hb (Nat.lt_of_lt_of_le h.2.2.1.lt hB),h.2.2.2.1.below hb (Nat.lt_of_lt_of_le h.2.2.2.1.lt hB),h.2.2.2.2.below hb (Nat.lt_of_lt_of_le h.2.2.2.2.lt hB)⟩
theorem MadeW.seg {w:World} {lo:Nat} {x:Wo} {g1 g2 g3 g4:Nat} (h:MadeW w lo x g1 g2 g3 g4):SegW w w.heap.size x (some ⟨g1,0,none⟩) (some ⟨g2,0,none⟩) (some ⟨g3,0,none⟩) (some ⟨g4,0,none⟩):=⟨h.2.1.seg,h.2.2.1.seg,h.2.2.2.1.seg,h.2.2.2.2.seg⟩
theorem Row.ty {w:World} {b b' n n' k k':Nat} {t t':TypeId} {f f':Nat→Nat→Value} (h:Row w b t n k f) (h':Row w b' t' n' k' f') (hne:t≠t'):b≠b':=by
  rintro rfl
  obtain ⟨c,hb,_⟩:=h
  obtain ⟨c',hb',_⟩:=h'
  rw [hb] at hb'
  simp at hb'
  exact hne hb'.2
set_option maxRecDepth 100000 in
set_option maxHeartbeats 4000000 in
theorem toWorld_any (x:Wo) (a b d e:Option Addr) (p q r s:Nat) (w:World) (h:SegW w w.heap.size x a b d e) (m:LenW x) :
    Calls Tryz.prog 6 #[.agg #[.int .i64 x.ch.cap,.int .i64 x.ch.sent,.int .i64 x.ch.got,.int .i64 x.ch.fin,.slice a x.ch.cells.length p,.slice b x.ch.words.length q,.slice d x.hands.length r,.slice e x.deals.length s,.int .i64 x.now]] w fun r' w'=>(∃ g1 g2 g3 g4,r'=.returned (.agg #[.int .i64 x.ch.cap,.int .i64 x.ch.sent,.int .i64 x.ch.got,.int .i64 x.ch.fin,.slice (some ⟨g1,0,none⟩) x.ch.cells.length x.ch.cells.length,.slice (some ⟨g2,0,none⟩) x.ch.words.length x.ch.words.length,.slice (some ⟨g3,0,none⟩) x.hands.length x.hands.length,.slice (some ⟨g4,0,none⟩) x.deals.length x.deals.length,.int .i64 x.now])∧MadeW w' w.heap.size x g1 g2 g3 g4)∧Below w.heap.size w w':=by
  obtain ⟨⟨cap,sent,got,fin,cells,words⟩,hands,deals,now⟩:=x
  obtain ⟨m1,m2,m3,m4⟩:=m
  have H1:=Lib.hid h.1
  have H2:=Lib.hid h.2.1
  have H3:=Lib.hid h.2.2.1
  have H4:=Lib.hid h.2.2.2
  simp only at *
  clear h
  go_enter Tryz.func6,Tryz.ntmps6
  go_wp2_with fail
  refine (toChan_any ⟨cap,sent,got,fin,cells,words⟩ a b p q _ (((H1.out).below (by exact zB)).more (by simp;try omega)) (((H2.out).below (by exact zB)).more (by simp;try omega)) m1 m2).mono ?_
  rintro _ w1 ⟨⟨g1,g2,rfl,hg1,hg2,hR1,hR2⟩,hb1⟩
  have hB1:Below w.heap.size w w1:=bT (by exact zB) hb1
  have hs1:=hb1.size
  simp at hs1 hg1 hg2
  have:=fun o=>hb1.cell (p:=⟨w.heap.size,o,none⟩) (by simp [World.setCell];try omega)
  have:=fun o=>hb1.frozen (p:=⟨w.heap.size,o,none⟩) (by simp [World.setCell];try omega)
  have:=fun o=>hb1.cell (p:=⟨w.heap.size+1,o,none⟩) (by simp [World.setCell];try omega)
  have:=fun o=>hb1.frozen (p:=⟨w.heap.size+1,o,none⟩) (by simp [World.setCell];try omega)
  have:=fun o=>hb1.cell (p:=⟨w.heap.size+1+1,o,none⟩) (by simp [World.setCell];try omega)
  have:=fun o=>hb1.frozen (p:=⟨w.heap.size+1+1,o,none⟩) (by simp [World.setCell];try omega)
  have:w.heap.size<w1.heap.size:=by omega
  have:w.heap.size+1<w1.heap.size:=by omega
  have:w.heap.size+1+1<w1.heap.size:=by omega
  have hl1:=hR1.lt
  have hl2:=hR2.lt
  have HR1:=Lib.hid hR1
  have HR2:=Lib.hid hR2
  clear hb1 hR1 hR2
  go_wp2_with fail
  refine (toHandS_any hands d r _ (((H3.out).below (by exact zB)).more (by simp [World.setCell];try omega)) m3).mono ?_
  rintro _ w2 ⟨rfl,hR3,hb2⟩
  have hB2:Below w.heap.size w w2:=bT (by exact zB) hb2
  have hs2:=hb2.size
  simp [World.setCell] at hs2 hR3
  have:=fun o=>hb2.cell (p:=⟨w.heap.size,o,none⟩) (by simp [World.setCell];try omega)
  have:=fun o=>hb2.frozen (p:=⟨w.heap.size,o,none⟩) (by simp [World.setCell];try omega)
  have:=fun o=>hb2.cell (p:=⟨w.heap.size+1,o,none⟩) (by simp [World.setCell];try omega)
  have:=fun o=>hb2.frozen (p:=⟨w.heap.size+1,o,none⟩) (by simp [World.setCell];try omega)
  have:=fun o=>hb2.cell (p:=⟨w.heap.size+1+1,o,none⟩) (by simp [World.setCell];try omega)
  have:=fun o=>hb2.frozen (p:=⟨w.heap.size+1+1,o,none⟩) (by simp [World.setCell];try omega)
  have:w.heap.size<w2.heap.size:=by omega
  have:w.heap.size+1<w2.heap.size:=by omega
  have:w.heap.size+1+1<w2.heap.size:=by omega
  have hl3:=hR3.lt
  have hR1':Row w2 g1 93 cells.length 3 (cellF cells):=Row.below (by repeat (first|with_reducible exact HR1.out|((with_reducible refine Row.setOther ?_ ?_ _);rotate_left;(focus ((try simp);(try omega)))))) hb2 (by simp [World.setCell];try omega)
  have hR2':Row w2 g2 2 words.length 1 (intF words):=Row.below (by repeat (first|with_reducible exact HR2.out|((with_reducible refine Row.setOther ?_ ?_ _);rotate_left;(focus ((try simp);(try omega)))))) hb2 (by simp [World.setCell];try omega)
  have HR1':=Lib.hid hR1'
  have HR2':=Lib.hid hR2'
  have HR3:=Lib.hid hR3
  clear hb2 hR1' hR2' hR3
  go_wp2_with fail
  refine (toDealS_any deals e s _ (((H4.out).below (by exact zB)).more (by simp [World.setCell];try omega)) m4).mono ?_
  rintro _ w3 ⟨rfl,hR4,hb3⟩
  have hB3:Below w.heap.size w w3:=bT (by exact zB) hb3
  have hs3:=hb3.size
  simp [World.setCell] at hs3 hR4
  have:=fun o=>hb3.cell (p:=⟨w.heap.size,o,none⟩) (by simp [World.setCell];try omega)
  have:=fun o=>hb3.frozen (p:=⟨w.heap.size,o,none⟩) (by simp [World.setCell];try omega)
  have:=fun o=>hb3.cell (p:=⟨w.heap.size+1,o,none⟩) (by simp [World.setCell];try omega)
  have:=fun o=>hb3.frozen (p:=⟨w.heap.size+1,o,none⟩) (by simp [World.setCell];try omega)
  have:=fun o=>hb3.cell (p:=⟨w.heap.size+1+1,o,none⟩) (by simp [World.setCell];try omega)
  have:=fun o=>hb3.frozen (p:=⟨w.heap.size+1+1,o,none⟩) (by simp [World.setCell];try omega)
  have:w.heap.size<w3.heap.size:=by omega
  have:w.heap.size+1<w3.heap.size:=by omega
  have:w.heap.size+1+1<w3.heap.size:=by omega
  have hl4:=hR4.lt
  have k1:Row w3 g1 93 cells.length 3 (cellF cells):=Row.below (by repeat (first|with_reducible exact HR1'.out|((with_reducible refine Row.setOther ?_ ?_ _);rotate_left;(focus ((try simp);(try omega)))))) hb3 (by simp [World.setCell];try omega)
  have k2:Row w3 g2 2 words.length 1 (intF words):=Row.below (by repeat (first|with_reducible exact HR2'.out|((with_reducible refine Row.setOther ?_ ?_ _);rotate_left;(focus ((try simp);(try omega)))))) hb3 (by simp [World.setCell];try omega)
  have k3:Row w3 w1.heap.size 70 hands.length 14 (handF hands):=Row.below (by repeat (first|with_reducible exact HR3.out|((with_reducible refine Row.setOther ?_ ?_ _);rotate_left;(focus ((try simp);(try omega)))))) hb3 (by simp [World.setCell];try omega)
  have K1:=Lib.hid k1
  have K2:=Lib.hid k2
  have K3:=Lib.hid k3
  have K4:=Lib.hid hR4
  clear hb3 k1 k2 k3 hR4
  go_wp2_with fail
  refine bodyPost_ret (v:=.agg #[.int .i64 (⟨⟨cap,sent,got,fin,cells,words⟩,hands,deals,now⟩:Wo).ch.cap,.int .i64 (⟨⟨cap,sent,got,fin,cells,words⟩,hands,deals,now⟩:Wo).ch.sent,.int .i64 (⟨⟨cap,sent,got,fin,cells,words⟩,hands,deals,now⟩:Wo).ch.got,.int .i64 (⟨⟨cap,sent,got,fin,cells,words⟩,hands,deals,now⟩:Wo).ch.fin,.slice (some ⟨g1,0,none⟩) cells.length cells.length,.slice (some ⟨g2,0,none⟩) words.length words.length,.slice (some ⟨w1.heap.size,0,none⟩) hands.length hands.length,.slice (some ⟨w2.heap.size,0,none⟩) deals.length deals.length,.int .i64 (⟨⟨cap,sent,got,fin,cells,words⟩,hands,deals,now⟩:Wo).now]) (by simp [results,Tryz.results6,go_sem, *]) rfl ⟨⟨g1,g2,w1.heap.size,w2.heap.size,rfl,⟨by omega,by omega,by omega,by omega⟩,?_,?_,?_,?_⟩,?_⟩
  · repeat (first|with_reducible exact K1.out|((with_reducible refine Row.setOther ?_ ?_ _);rotate_left;(focus ((try simp);(try omega)))))
  · repeat (first|with_reducible exact K2.out|((with_reducible refine Row.setOther ?_ ?_ _);rotate_left;(focus ((try simp);(try omega)))))
  · repeat (first|with_reducible exact K3.out|((with_reducible refine Row.setOther ?_ ?_ _);rotate_left;(focus ((try simp);(try omega)))))
  · repeat (first|with_reducible exact K4.out|((with_reducible refine Row.setOther ?_ ?_ _);rotate_left;(focus ((try simp);(try omega)))))
  · exact zB
set_option maxRecDepth 100000 in
set_option maxHeartbeats 4000000 in
theorem eqWorld_any (x:Wo) (a b d e a' b' d' e':Option Addr) (p q r s p' q' r' s':Nat) (w:World) (h:SegW w w.heap.size x a b d e) (h':SegW w w.heap.size x a' b' d' e') (m:LenW x) :
    Calls Tryz.prog 9 #[.agg #[.int .i64 x.ch.cap,.int .i64 x.ch.sent,.int .i64 x.ch.got,.int .i64 x.ch.fin,.slice a x.ch.cells.length p,.slice b x.ch.words.length q,.slice d x.hands.length r,.slice e x.deals.length s,.int .i64 x.now],.agg #[.int .i64 x.ch.cap,.int .i64 x.ch.sent,.int .i64 x.ch.got,.int .i64 x.ch.fin,.slice a' x.ch.cells.length p',.slice b' x.ch.words.length q',.slice d' x.hands.length r',.slice e' x.deals.length s',.int .i64 x.now]] w fun r w'=>r=.returned (.bool true)∧Below w.heap.size w w':=by
  obtain ⟨⟨cap,sent,got,fin,cells,words⟩,hands,deals,now⟩:=x
  obtain ⟨m1,m2,m3,m4⟩:=m
  have H:=Lib.hid h
  have H':=Lib.hid h'
  simp only at *
  clear h h'
  go_enter Tryz.func9,Tryz.ntmps9
  go_wp2_with fail
  refine (eqChan_any ⟨cap,sent,got,fin,cells,words⟩ a b a' b' p q p' q' _ (((H.out.1).below (by exact zB)).more (by simp;try omega)) (((H.out.2.1).below (by exact zB)).more (by simp;try omega)) (((H'.out.1).below (by exact zB)).more (by simp;try omega)) (((H'.out.2.1).below (by exact zB)).more (by simp;try omega)) m1 m2).mono ?_
  rintro _ w1 ⟨rfl,hb1⟩
  have hB1:Below w.heap.size w w1:=bT (by exact zB) hb1
  have hs1:=hb1.size
  try simp at hs1
  have:=fun o=>hb1.cell (p:=⟨w.heap.size,o,none⟩) (by simp [World.setCell];try omega)
  have:=fun o=>hb1.frozen (p:=⟨w.heap.size,o,none⟩) (by simp [World.setCell];try omega)
  have:=fun o=>hb1.cell (p:=⟨w.heap.size+1,o,none⟩) (by simp [World.setCell];try omega)
  have:=fun o=>hb1.frozen (p:=⟨w.heap.size+1,o,none⟩) (by simp [World.setCell];try omega)
  clear hb1
  go_wp2_with fail
  refine (eqHandS_any hands d d' r r' _ (((H.out.2.2.1).below hB1).more (by omega)) (((H'.out.2.2.1).below hB1).more (by omega)) m3).mono ?_
  rintro _ w2 ⟨rfl,hb2⟩
  have hB2:Below w.heap.size w w2:=bT hB1 hb2
  have hs2:=hb2.size
  have:=fun o=>hb2.cell (p:=⟨w.heap.size,o,none⟩) (by simp [World.setCell];try omega)
  have:=fun o=>hb2.frozen (p:=⟨w.heap.size,o,none⟩) (by simp [World.setCell];try omega)
  have:=fun o=>hb2.cell (p:=⟨w.heap.size+1,o,none⟩) (by simp [World.setCell];try omega)
  have:=fun o=>hb2.frozen (p:=⟨w.heap.size+1,o,none⟩) (by simp [World.setCell];try omega)
  clear hb2
  go_wp2_with fail
  refine (eqDealS_any deals e e' s s' _ (((H.out.2.2.2).below hB2).more (by omega)) (((H'.out.2.2.2).below hB2).more (by omega)) m4).mono ?_
  rintro _ w3 ⟨rfl,hb3⟩
  have hB3:Below w.heap.size w w3:=bT hB2 hb3
  have hs3:=hb3.size
  have:=fun o=>hb3.cell (p:=⟨w.heap.size,o,none⟩) (by simp [World.setCell];try omega)
  have:=fun o=>hb3.frozen (p:=⟨w.heap.size,o,none⟩) (by simp [World.setCell];try omega)
  have:=fun o=>hb3.cell (p:=⟨w.heap.size+1,o,none⟩) (by simp [World.setCell];try omega)
  have:=fun o=>hb3.frozen (p:=⟨w.heap.size+1,o,none⟩) (by simp [World.setCell];try omega)
  clear hb3
  go_wp2
  go_ret
  exact ⟨rfl,by exact zB⟩
theorem leftN_le {l:Int} {n:Nat} (h:0≤leftN l n):(n:Int)≤l∧leftN l n=l - n:=by
  unfold leftN at *
  split at h <;> rename_i hh
  · omega
  · rw [if_neg hh];omega
theorem leftC_le {l:Int} {c:Ch} (h:0≤leftC l c):(c.cells.length:Int)≤l∧(c.words.length:Int)≤l∧leftC l c≤l:=by
  unfold leftC at *
  split at h <;> rename_i hh
  · omega
  · rw [if_neg hh]
    have h1:=leftN_le (show 0≤leftN l c.cells.length by omega)
    have h2:=leftN_le h
    omega
set_option maxRecDepth 100000 in
set_option maxHeartbeats 4000000 in
theorem szWorld_any (x:Wo) (a b d e:Option Addr) (p q r s:Nat) (left:Int) (w:World) (h0:0≤left) (h1:left≤1048576) (m1:x.ch.cells.length≤maxLen) (m2:x.ch.words.length≤maxLen) (m3:x.hands.length≤maxLen) (m4:x.deals.length≤maxLen) :
    Calls Tryz.prog 4 #[.agg #[.int .i64 x.ch.cap,.int .i64 x.ch.sent,.int .i64 x.ch.got,.int .i64 x.ch.fin,.slice a x.ch.cells.length p,.slice b x.ch.words.length q,.slice d x.hands.length r,.slice e x.deals.length s,.int .i64 x.now],.int .i64 left] w fun r' w'=>(∃ z:Int,r'=.returned (.int .i64 z)∧(0≤z→LenW x))∧Below w.heap.size w w':=by
  obtain ⟨⟨cap,sent,got,fin,cells,words⟩,hands,deals,now⟩:=x
  simp only at *
  have M3:=Lib.hid m3
  have M4:=Lib.hid m4
  clear m3 m4
  obtain ⟨l1,e1⟩:∃ l,leftC left ⟨cap,sent,got,fin,cells,words⟩=l:=⟨_,rfl⟩
  have hC:=szChan_any ⟨cap,sent,got,fin,cells,words⟩ a b p q left
  rw [e1] at hC
  go_enter Tryz.func4,Tryz.ntmps4
  go_wp2_with fail
  refine (hC _ h0 h1 m1 m2).mono ?_
  rintro _ w1 ⟨rfl,hb1⟩
  have hB1:Below w.heap.size w w1:=bT (by exact zB) hb1
  have hs1:=hb1.size
  try simp at hs1
  have:=fun o=>hb1.cell (p:=⟨w.heap.size,o,none⟩) (by simp;try omega)
  clear hC
  by_cases hn1:l1<0
  · clear e1
    go_wp2
    go_ret
    exact ⟨⟨-1,rfl,fun hz=>by omega⟩,hB1⟩
  have hq:=leftC_le (l:=left) (c:=⟨cap,sent,got,fin,cells,words⟩) (by rw [e1];omega)
  rw [e1] at hq
  clear e1
  simp only at hq
  obtain ⟨l2,e2⟩:∃ l,(if l1<(hands.length:Int) then (-1:Int) else l1 - hands.length)=l:=⟨_,rfl⟩
  have E2:=Lib.hid e2
  have hH:=szHandS_any hands.length d r l1
  rw [e2] at hH
  clear e2
  go_wp2_with fail
  refine (hH _ (by omega) (by omega) M3.out).mono ?_
  rintro _ _ ⟨rfl,rfl⟩
  clear hH
  by_cases hn2:l2<0
  · go_wp2
    go_ret
    exact ⟨⟨-1,rfl,fun hz=>by omega⟩,hB1⟩
  have hq2:(hands.length:Int)≤l1∧l2=l1 - hands.length:=by
    have:=E2.out
    split at this <;> omega
  clear E2
  obtain ⟨l3,e3⟩:∃ l,(if l2<(deals.length:Int) then (-1:Int) else l2 - deals.length)=l:=⟨_,rfl⟩
  have E3:=Lib.hid e3
  have hD:=szDealS_any deals.length e s l2
  rw [e3] at hD
  clear e3
  have HQ2:=Lib.hid hq2
  clear hq2
  go_wp2_with fail
  refine (hD _ (by omega) (by have:=HQ2.out;omega) M4.out).mono ?_
  rintro _ _ ⟨rfl,rfl⟩
  clear hD
  by_cases hn3:l3<0
  · go_wp2
    go_ret
    exact ⟨⟨-1,rfl,fun hz=>by omega⟩,hB1⟩
  have hq3:(deals.length:Int)≤l2:=by
    have:=E3.out
    split at this <;> omega
  clear E3
  have HQ3:=Lib.hid hq3
  clear hq3
  go_wp2
  go_ret
  exact ⟨⟨l3,rfl,fun hz=>by have:=HQ2.out;have:=HQ3.out;exact ⟨by show cells.length≤_;omega,by show words.length≤_;omega,by show hands.length≤_;omega,by show deals.length≤_;omega⟩⟩,hB1⟩
end Go.Proofs.YtmnpgkcdfielbaaGreat
