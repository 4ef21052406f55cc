/-
  Worlds whose lists are the call's own; no condition.
-/
import Derived.Test.YtffhjmepfojhnaaGreatP16
import Derived.Test.YtffhjmepfojhnaaGreatP03
set_option maxRecDepth 100000
set_option maxHeartbeats 4000000
set_option linter.unusedSimpArgs false
set_option linter.unusedVariables false
namespace Go.Proofs.YtffhjmepfojhnaaGreat
section
open Go.RowKit
def Ai (w':World) (lo:Nat) (v1 v2 v3 v4:Value) (x:Wo):Prop:=ah w' lo v1 x.ch.cells∧ai w' lo v2 x.ch.words∧CF w' lo v3 x.hands∧CG w' lo v4 x.deals
def Aj (x v:Value):Sem Unit:=Instr.storeAt 49 x v
theorem kR (x v:Value):Instr.storeAt 49 x v=Aj x v:=by unfold Aj;simp
theorem j5 {w:World} {b:Nat} (x:Ha) (h:okO 14 (hp w b)=true):(Aj (.pointer (some ⟨b,0,none⟩)) (.agg (aa x))).run Tryz.prog w=.ok () (bI w b (aa x)):=aA x h
def setElem (w:World) (b o:Nat) (x:Ha):World :=
 (((((((((((((w.setCell ⟨b,o+0,none⟩ (.int .i64 x.pos)).setCell ⟨b,o+1,none⟩ (.int .i64 x.code)).setCell ⟨b,o+2,none⟩ (.int .i64 x.elem)).setCell ⟨b,o+3,none⟩ (.int .i64 x.cell)).setCell ⟨b,o+4,none⟩ (.int .i64 x.seen)).setCell ⟨b,o+5,none⟩ (.int .i64 x.wait)).setCell ⟨b,o+6,none⟩ (.int .i64 x.fin)).setCell ⟨b,o+7,none⟩ (.int .i64 x.come)).setCell ⟨b,o+8,none⟩ (.int .i64 x.grow)).setCell ⟨b,o+9,none⟩ (.int .i64 x.mine)).setCell ⟨b,o+10,none⟩ (.int .i64 x.nxt)).setCell ⟨b,o+11,none⟩ (.int .i64 x.beg)).setCell ⟨b,o+12,none⟩ (.int .i64 x.reply)).setCell ⟨b,o+13,none⟩ (.int .i64 x.out)
theorem KP {w:World} {b o:Nat} (x:Ha) (h:∀ j,j<14→∃ v,w.cell? ⟨b,o+j,none⟩=some v) (hf:∀ j,w.frozen? ⟨b,j,none⟩=false):(Aj (.pointer (some ⟨b,o,none⟩)) (.agg (aa x))).run Tryz.prog w=.ok () (setElem w b o x):=by
 obtain ⟨u0,h0⟩:=h 0 tO
 obtain ⟨u1,h1⟩:=h 1 tO
 obtain ⟨u2,h2⟩:=h 2 tO
 obtain ⟨u3,h3⟩:=h 3 tO
 obtain ⟨u4,h4⟩:=h 4 tO
 obtain ⟨u5,h5⟩:=h 5 tO
 obtain ⟨u6,h6⟩:=h 6 tO
 obtain ⟨u7,h7⟩:=h 7 tO
 obtain ⟨u8,h8⟩:=h 8 tO
 obtain ⟨u9,h9⟩:=h 9 tO
 obtain ⟨QS,h10⟩:=h 10 tO
 obtain ⟨QT,h11⟩:=h 11 tO
 obtain ⟨QU,h12⟩:=h 12 tO
 obtain ⟨QV,MJ⟩:=h 13 tO
 simp only [Nat.add_zero] at h0
 simp [Aj,aa,go_sem,setElem, *]
theorem o7 (w:World) (b o:Nat) (x:Ha):w.grownBy (setElem w b o x) (some b):=by
 unfold setElem
 repeat (first|with_reducible exact gR _ _|with_reducible refine gS ?_ (.inl rfl))
theorem xC (w:World) (b o:Nat) (x:Ha):(setElem w b o x).heap.size=w.heap.size:=by simp [setElem]
end
section
open Go.RowKit
theorem Ak {lo b o:Nat} {w W:World} {x:Ha} (h:Below lo w W) (hl:lo≤W.heap.size) (hb:lo≤b):Below lo w (setElem W b o x):=lI h (o7 W b o x) hl (fun k hk=>by simp at hk;omega)
theorem IB {w:World} {b o:Nat} (x:Ha) (h:∀ j,j<14→w.cell? ⟨b,o+j,none⟩=some ((aa x).getD j (.int .i64 0))):(sH (.pointer (some ⟨b,o,none⟩))).run Tryz.prog w=.ok (.agg (aa x)) w:=by
 have h0:=h 0 tO
 have h1:=h 1 tO
 have h2:=h 2 tO
 have h3:=h 3 tO
 have h4:=h 4 tO
 have h5:=h 5 tO
 have h6:=h 6 tO
 have h7:=h 7 tO
 have h8:=h 8 tO
 have h9:=h 9 tO
 have h10:=h 10 tO
 have h11:=h 11 tO
 have h12:=h 12 tO
 have MJ:=h 13 tO
 simp [aa,Array.getD] at h0 h1 h2 h3 h4 h5 h6 h7 h8 h9 h10 h11 h12 MJ
 simp [sH,aa,go_sem, *]
attribute [local simp] aI
attribute [local go_sem ↓] aH aM aN kR ax
attribute [local go_sem] j5
attribute [local go_sem ↓] I9
theorem KQ (n:Nat) (h:n≤1048576) (W:World):(Instr.makeSlice 32 (.int .i64 n) (.int .i64 n)).run Tryz.prog W=.ok (.slice (some ⟨W.heap.size,0,none⟩) n n) (W.alloc (.cells (madeCells (aa Ha.zero) (n*14)) 49)):=by
 obtain ⟨i,hi,hz,hs,hb⟩:=info_parts F6
 have:=run_make (P:=Tryz.prog) W 32 49 i _ Tryz.underlying32 hi hz .i64 .i64 n n tO tO (by rw [hb];omega) tO
 rw [this,hs]
 simp [Value.cells]
theorem Row.setElem {w:World} {b n:Nat} {t:TypeId} {f:Nat→Nat→Value} (h:Row w b t n 14 f) {i:Nat} (hi:i<n) (x:Ha):Row (setElem w b (i*14) x) b t n 14 (fun i' j'=>if i'=i then (aa x).getD j' (.int .i64 0) else f i' j'):=h.set14 hi (fun j=>(aa x).getD j (.int .i64 0))
theorem Al (xs:List Ha) (a:Option Addr) (cap:Nat) (w:World) (h:Gh w w.heap.size a xs) (hm:xs.length≤1048576) :
  Calls Tryz.prog 88 #[.slice a xs.length cap] w fun r w'=>r=.returned (.slice (some ⟨w.heap.size,0,none⟩) xs.length xs.length)∧Row w' w.heap.size 49 xs.length 14 (gB xs)∧Below w.heap.size w w':=by
 have HS:=Lib.hid h
 clear h
 have hmk:=KQ xs.length hm
 have hR0:=(Row.made w (aa Ha.zero) xs.length 49).congr (g:=l8 (gB xs) (fun _ j=>(aa Ha.zero)[j]!) 0) (fun i j _ hj=>by rw [qI])
 go_enter Tryz.func88,Tryz.ntmps88
 go_wp2
 go_loopw [4] (fun i wr=>∃ k:Nat,k≤xs.length∧i=.int .i64 k∧Row wr w.heap.size 49 xs.length 14 (l8 (gB xs) (fun _ j=>(aa Ha.zero)[j]!) k)∧Below w.heap.size w wr) (fun i _=>xs.length - (intOf i).toNat)
 case atStart=>exact ⟨0,Nat.zero_le _,rfl,hR0,(Below.refl _ _).alloc (Nat.le_refl _) _⟩
 case round =>
  obtain ⟨k,hk,rfl,hR,hB⟩:=hrel
  have hs:=hB.size
  have hl:=hR.lt
  by_cases hlt:k<xs.length
  ·obtain h0|⟨b,o,rfl,hb,hc⟩:=HS.out
   ·omega
   have Fv:=IB (w:=wr) (b:=b) (o:=o+k*14) (xs.getD k Ha.zero) (fun j hj=>(hB.cell (p:=⟨b,o+k*14+j,none⟩) hb).trans (hc k j hlt hj))
   clear hc
   generalize hcg:xs.getD k Ha.zero=x at Fv
   have HC:=Lib.hid hcg
   clear hcg
   go_wp2_with ((go_at_call 140;refine (Da _ _).mono ?_;rintro _ w1 ⟨rfl,ag⟩;have hBw1:Below w.heap.size w w1:=bT zB ag;have ak:=ag.size;(try (simp at ak)));have tC:=hR.below ag hl;have hst:=KP (w:=w1) (b:=w.heap.size) (o:=k*14) x (fun j hj=>⟨_,tC.cell hlt hj⟩) tC.frozen)
   go_roundw
   case rel=>exact ⟨k+1,by omega,by go_num,(tC.setElem hlt x).congr (fun i j _ _=>lZ (v:=fun j=>(aa x).getD j (.int .i64 0)) (by show _=(aa (xs.getD k Ha.zero)).getD j (.int .i64 0);rw [HC.out]) i),Ak hBw1 tO tO⟩
   case measure=>simp [intOf];omega
  ·have:k=xs.length:=by omega
   subst this
   go_wp2
   go_ret
   exact ⟨rfl,hR.congr (nG _ _ _ 14),hB⟩
theorem Am (xs:List Ha) (a a':Option Addr) (cap cap':Nat) (w:World) (h:Gh w w.heap.size a xs) (h':Seg w w.heap.size a' xs.length 14 (gB xs)) (hm:xs.length≤1048576) :
  Calls Tryz.prog 91 #[.slice a xs.length cap,.slice a' xs.length cap'] w fun r w'=>r=.returned (.bool true)∧Below w.heap.size w w':=by
 have HS:=Lib.hid h
 have Mc:=Lib.hid h'
 clear h h'
 go_enter Tryz.func91,Tryz.ntmps91
 go_wp2
 go_loopw [5] (fun i wr=>∃ k:Nat,k≤xs.length∧i=.int .i64 k∧Below w.heap.size w wr) (fun i _=>xs.length - (intOf i).toNat)
 case atStart=>exact ⟨0,Nat.zero_le _,rfl,Below.refl _ _⟩
 case round =>
  obtain ⟨k,hk,rfl,hB⟩:=hrel
  have hs:=hB.size
  by_cases hlt:k<xs.length
  ·obtain h0|⟨b,o,rfl,hb,hc⟩:=HS.out
   ·omega
   obtain h0|⟨b',o',rfl,hb',hc'⟩:=Mc.out
   ·omega
   have Fv:=lV (w:=wr.drew) (b:=b) (o:=o+k*14) (xs.getD k Ha.zero) (fun j hj=>(hB.cell (p:=⟨b,o+k*14+j,none⟩) hb).trans (hc k j hlt hj))
   have Me:=lV (w:=wr.drew) (b:=b') (o:=o'+k*14) (xs.getD k Ha.zero) (fun j hj=>(hB.cell (p:=⟨b',o'+k*14+j,none⟩) hb').trans (hc' k j hlt hj))
   clear hc hc'
   generalize xs.getD k Ha.zero=x at Fv Me
   have hk0:(0:Int)≤(k:Int):=by omega
   have hk1:(k:Int)<(xs.length:Int):=by omega
   go_wp2_with fail
   go_still_tail 8,(by kernel_rfl)
   go_wp2_with (go_at_call 143;refine (Db _ _).mono ?_;rintro _ w1 ⟨rfl,ag⟩;have hBw1:Below w.heap.size w w1:=bT zB ag;have ak:=ag.size;(try (simp at ak)))
   go_roundw
   case rel=>exact ⟨k+1,by omega,by go_num,by exact zB⟩
   case measure=>simp [intOf];omega
  ·have:k=xs.length:=by omega
   subst this
   go_wp2
   go_ret
   exact ⟨rfl,hB⟩
end
section
open Go.RowKit
def El (x:Value):Sem Value:=Instr.loadAt 44 x
theorem KR (x:Value):Instr.loadAt 44 x=El x:=by unfold El;simp
theorem Em {w:World} {b o:Nat} (x:De) (h:∀ j,j<7→w.cell? ⟨b,o+j,none⟩=some ((fq x).getD j (.int .i64 0))):(El (.pointer (some ⟨b,o,none⟩))).run Tryz.prog w=.ok (.agg (fq x)) w:=by
 have h0:=h 0 tO
 have h1:=h 1 tO
 have h2:=h 2 tO
 have h3:=h 3 tO
 have h4:=h 4 tO
 have h5:=h 5 tO
 have h6:=h 6 tO
 simp [fq,Array.getD] at h0 h1 h2 h3 h4 h5 h6
 simp [El,fq,go_sem, *]
def xD (x:Value):Sem Value:=Instr.loadAt 167 x
theorem IC (x:Value):Instr.loadAt 167 x=xD x:=by unfold xD;simp
theorem IE {w:World} {b o:Nat} (x:De) (h:∀ j,j<7→w.cell? ⟨b,o+j,none⟩=some ((fq x).getD j (.int .i64 0))):(xD (.pointer (some ⟨b,o,none⟩))).run Tryz.prog w=.ok (.agg (fq x)) w:=by
 have h0:=h 0 tO
 have h1:=h 1 tO
 have h2:=h 2 tO
 have h3:=h 3 tO
 have h4:=h 4 tO
 have h5:=h 5 tO
 have h6:=h 6 tO
 simp [fq,Array.getD] at h0 h1 h2 h3 h4 h5 h6
 simp [xD,fq,go_sem, *]
def En (x v:Value):Sem Unit:=Instr.storeAt 44 x v
theorem KS (x v:Value):Instr.storeAt 44 x v=En x v:=by unfold En;simp
def setDeal (w:World) (b o:Nat) (x:De):World :=
 (((((((w.setCell ⟨b,o+0,none⟩ (.int .i64 x.task)).setCell ⟨b,o+1,none⟩ (.int .i64 x.code)).setCell ⟨b,o+2,none⟩ (.int .i64 x.elem)).setCell ⟨b,o+3,none⟩ (.int .i64 x.beg)).setCell ⟨b,o+4,none⟩ (.int .i64 x.fin)).setCell ⟨b,o+5,none⟩ (.int .i64 x.reply)).setCell ⟨b,o+6,none⟩ (.int .i64 x.out))
theorem KT {w:World} {b o:Nat} (x:De) (h:∀ j,j<7→∃ v,w.cell? ⟨b,o+j,none⟩=some v) (hf:∀ j,w.frozen? ⟨b,j,none⟩=false):(En (.pointer (some ⟨b,o,none⟩)) (.agg (fq x))).run Tryz.prog w=.ok () (setDeal w b o x):=by
 obtain ⟨u0,h0⟩:=h 0 tO
 obtain ⟨u1,h1⟩:=h 1 tO
 obtain ⟨u2,h2⟩:=h 2 tO
 obtain ⟨u3,h3⟩:=h 3 tO
 obtain ⟨u4,h4⟩:=h 4 tO
 obtain ⟨u5,h5⟩:=h 5 tO
 obtain ⟨u6,h6⟩:=h 6 tO
 simp only [Nat.add_zero] at h0
 simp [En,fq,go_sem,setDeal, *]
theorem Df (w:World) (b o:Nat) (x:De):w.grownBy (setDeal w b o x) (some b):=by
 unfold setDeal
 repeat (first|with_reducible exact gR _ _|with_reducible refine gS ?_ (.inl rfl))
theorem Ao {lo b o:Nat} {w W:World} {x:De} (h:Below lo w W) (hl:lo≤W.heap.size) (hb:lo≤b):Below lo w (setDeal W b o x):=lI h (Df W b o x) hl (fun k hk=>by simp at hk;omega)
theorem Dh (x:De) (w:World):Calls Tryz.prog 141 #[.agg (fq x)] w fun r w'=>r=.returned (.agg (fq x))∧Below w.heap.size w w':=by
 obtain ⟨xt,xc,xe,xb,xf,xr,xo⟩:=x
 simp only [fq]
 go_enter Tryz.func141,Tryz.ntmps141
 go_wp2_with fail;refine au w zB fun bb=>?_;refine (oU xc xe _).mono ?_;rintro _ w1 ⟨rfl,ag⟩;obtain ⟨aV,ak,zz⟩:=DX bb ag (b:=w.heap.size);(try simp at ak);(try simp [go_sem] at zz);replace bX:=DW zz;clear zz ag bb
 go_wp2
 exact bodyPost_ret (v:=.agg #[.int .i64 xt,.int .i64 xc,.int .i64 xe,.int .i64 xb,.int .i64 xf,.int .i64 xr,.int .i64 xo]) (by simp [results,Tryz.results141,go_sem, *]) rfl ⟨rfl,by exact zB⟩
theorem Di (x:De) (w:World):Calls Tryz.prog 144 #[.agg (fq x),.agg (fq x)] w fun r w'=>r=.returned (.bool true)∧Below w.heap.size w w':=by
 obtain ⟨xt,xc,xe,xb,xf,xr,xo⟩:=x
 simp only [fq]
 go_enter Tryz.func144,Tryz.ntmps144
 go_wp2_with ((go_at_call 180;refine (Ah _ _ _).mono ?_;rintro _ w1 ⟨rfl,ag⟩;have hBw1:Below w.heap.size w w1:=bT zB ag;have ak:=ag.size;(try (simp at ak));have:=fun o=>ag.cell (p:=⟨w.heap.size,o,none⟩) (by ((try simp);(try omega)));have:=fun o=>ag.frozen (p:=⟨w.heap.size,o,none⟩) (by ((try simp);(try omega)));have:=fun o=>ag.cell (p:=⟨w.heap.size+1,o,none⟩) (by ((try simp);(try omega)));have:=fun o=>ag.frozen (p:=⟨w.heap.size+1,o,none⟩) (by ((try simp);(try omega)));have:w.heap.size<w1.heap.size:=tO;have:w.heap.size≤w1.heap.size:=tO;have:w.heap.size≤w1.heap.size+1:=tO;have:w.heap.size+1<w1.heap.size:=tO;have:w.heap.size+1≤w1.heap.size:=tO;have:w.heap.size+1≤w1.heap.size+1:=tO))
 all_goals go_ret
 all_goals exact ⟨rfl,by exact zB⟩
attribute [local go_sem ↓] KR IC KS
theorem KU (n:Nat) (h:n≤1048576) (W:World):(Instr.makeSlice 33 (.int .i64 n) (.int .i64 n)).run Tryz.prog W=.ok (.slice (some ⟨W.heap.size,0,none⟩) n n) (W.alloc (.cells (madeCells (fq De.zero) (n*7)) 44)):=by
 obtain ⟨i,hi,hz,hs,hb⟩:=info_parts F7
 have:=run_make (P:=Tryz.prog) W 33 44 i _ Tryz.underlying33 hi hz .i64 .i64 n n tO tO (by rw [hb];omega) tO
 rw [this,hs]
 simp [Value.cells]
theorem Row.setDeal {w:World} {b n:Nat} {t:TypeId} {f:Nat→Nat→Value} (h:Row w b t n 7 f) {i:Nat} (hi:i<n) (x:De):Row (setDeal w b (i*7) x) b t n 7 (fun i' j'=>if i'=i then (fq x).getD j' (.int .i64 0) else f i' j'):=h.set7 hi (fun j=>(fq x).getD j (.int .i64 0))
theorem Ap (xs:List De) (a:Option Addr) (cap:Nat) (w:World) (h:Jj w w.heap.size a xs) (hm:xs.length≤1048576) :
  Calls Tryz.prog 89 #[.slice a xs.length cap] w fun r w'=>r=.returned (.slice (some ⟨w.heap.size,0,none⟩) xs.length xs.length)∧Row w' w.heap.size 44 xs.length 7 (l7 xs)∧Below w.heap.size w w':=by
 have HS:=Lib.hid h
 clear h
 have hmk:=KU xs.length hm
 have hR0:=(Row.made w (fq De.zero) xs.length 44).congr (g:=l8 (l7 xs) (fun _ j=>(fq De.zero)[j]!) 0) (fun i j _ hj=>by rw [qI])
 go_enter Tryz.func89,Tryz.ntmps89
 go_wp2
 go_loopw [4] (fun i wr=>∃ k:Nat,k≤xs.length∧i=.int .i64 k∧Row wr w.heap.size 44 xs.length 7 (l8 (l7 xs) (fun _ j=>(fq De.zero)[j]!) k)∧Below w.heap.size w wr) (fun i _=>xs.length - (intOf i).toNat)
 case atStart=>exact ⟨0,Nat.zero_le _,rfl,hR0,(Below.refl _ _).alloc (Nat.le_refl _) _⟩
 case round =>
  obtain ⟨k,hk,rfl,hR,hB⟩:=hrel
  have hs:=hB.size
  have hl:=hR.lt
  by_cases hlt:k<xs.length
  ·obtain h0|⟨b,o,rfl,hb,hc⟩:=HS.out
   ·omega
   have Fv:=IE (w:=wr) (b:=b) (o:=o+k*7) (xs.getD k De.zero) (fun j hj=>(hB.cell (p:=⟨b,o+k*7+j,none⟩) hb).trans (hc k j hlt hj))
   clear hc
   generalize hcg:xs.getD k De.zero=x at Fv
   have HC:=Lib.hid hcg
   clear hcg
   go_wp2_with ((go_at_call 141;refine (Dh _ _).mono ?_;rintro _ w1 ⟨rfl,ag⟩;have hBw1:Below w.heap.size w w1:=bT zB ag;have ak:=ag.size;(try (simp at ak)));have tC:=hR.below ag hl;have hst:=KT (w:=w1) (b:=w.heap.size) (o:=k*7) x (fun j hj=>⟨_,tC.cell hlt hj⟩) tC.frozen)
   go_roundw
   case rel=>exact ⟨k+1,by omega,by go_num,(tC.setDeal hlt x).congr (fun i j _ _=>lZ (v:=fun j=>(fq x).getD j (.int .i64 0)) (by show _=(fq (xs.getD k De.zero)).getD j (.int .i64 0);rw [HC.out]) i),Ao hBw1 tO tO⟩
   case measure=>simp [intOf];omega
  ·have:k=xs.length:=by omega
   subst this
   go_wp2
   go_ret
   exact ⟨rfl,hR.congr (nG _ _ _ 7),hB⟩
theorem Aq (xs:List De) (a a':Option Addr) (cap cap':Nat) (w:World) (h:Jj w w.heap.size a xs) (h':Seg w w.heap.size a' xs.length 7 (l7 xs)) (hm:xs.length≤1048576) :
  Calls Tryz.prog 92 #[.slice a xs.length cap,.slice a' xs.length cap'] w fun r w'=>r=.returned (.bool true)∧Below w.heap.size w w':=by
 have HS:=Lib.hid h
 have Mc:=Lib.hid h'
 clear h h'
 go_enter Tryz.func92,Tryz.ntmps92
 go_wp2
 go_loopw [5] (fun i wr=>∃ k:Nat,k≤xs.length∧i=.int .i64 k∧Below w.heap.size w wr) (fun i _=>xs.length - (intOf i).toNat)
 case atStart=>exact ⟨0,Nat.zero_le _,rfl,Below.refl _ _⟩
 case round =>
  obtain ⟨k,hk,rfl,hB⟩:=hrel
  have hs:=hB.size
  by_cases hlt:k<xs.length
  ·obtain h0|⟨b,o,rfl,hb,hc⟩:=HS.out
   ·omega
   obtain h0|⟨b',o',rfl,hb',hc'⟩:=Mc.out
   ·omega
   have Fv:=Em (w:=wr.drew) (b:=b) (o:=o+k*7) (xs.getD k De.zero) (fun j hj=>(hB.cell (p:=⟨b,o+k*7+j,none⟩) hb).trans (hc k j hlt hj))
   have Me:=Em (w:=wr.drew) (b:=b') (o:=o'+k*7) (xs.getD k De.zero) (fun j hj=>(hB.cell (p:=⟨b',o'+k*7+j,none⟩) hb').trans (hc' k j hlt hj))
   clear hc hc'
   generalize xs.getD k De.zero=x at Fv Me
   have hk0:(0:Int)≤(k:Int):=by omega
   have hk1:(k:Int)<(xs.length:Int):=by omega
   go_wp2_with fail
   go_still_tail 8,(by kernel_rfl)
   go_wp2_with (go_at_call 144;refine (Di _ _).mono ?_;rintro _ w1 ⟨rfl,ag⟩;have hBw1:Below w.heap.size w w1:=bT zB ag;have ak:=ag.size;(try (simp at ak)))
   go_roundw
   case rel=>exact ⟨k+1,by omega,by go_num,by exact zB⟩
   case measure=>simp [intOf];omega
  ·have:k=xs.length:=by omega
   subst this
   go_wp2
   go_ret
   exact ⟨rfl,hB⟩
end
section
open Go.RowKit
def sI (k:Int) (m:Nat):Nat→Value
 | 0=>.int .i64 (k+14*(m:Int))
 | 1=>.int .i64 (k+14*(m:Int)+1)
 | 2=>.int .i64 (k+14*(m:Int)+1+1)
 | 3=>.int .i64 (k+14*(m:Int)+1+1+1)
 | 4=>.int .i64 (k+14*(m:Int)+1+1+1+1)
 | 5=>.int .i64 (k+14*(m:Int)+1+1+1+1+1)
 | 6=>.int .i64 (k+14*(m:Int)+1+1+1+1+1+1)
 | 7=>.int .i64 (k+14*(m:Int)+1+1+1+1+1+1+1)
 | 8=>.int .i64 (k+14*(m:Int)+1+1+1+1+1+1+1+1)
 | 9=>.int .i64 (k+14*(m:Int)+1+1+1+1+1+1+1+1+1)
 | 10=>.int .i64 (k+14*(m:Int)+1+1+1+1+1+1+1+1+1+1)
 | 11=>.int .i64 (k+14*(m:Int)+1+1+1+1+1+1+1+1+1+1+1)
 | 12=>.int .i64 (k+14*(m:Int)+1+1+1+1+1+1+1+1+1+1+1+1)
 | _=>.int .i64 (k+14*(m:Int)+1+1+1+1+1+1+1+1+1+1+1+1+1)
theorem Ar (k:Int) (m:Nat):∀ j,j<14→sI k m j=uL 14 k m j:=by
 intro j hj
 have:j=0∨j=1∨j=2∨j=3∨j=4∨j=5∨j=6∨j=7∨j=8∨j=9∨j=10∨j=11∨j=12∨j=13:=by omega
 rcases this with rfl|rfl|rfl|rfl|rfl|rfl|rfl|rfl|rfl|rfl|rfl|rfl|rfl|rfl <;> (simp only [sI,uL];congr 1 <;> omega)
theorem uM (n:Nat) (f:Nat→Nat→Value) (lo:Nat) (v:Value) (k:Int) (w:World) (h:New w lo v n 14 f) (h0:0≤k) (h1:k≤1099511627776) (hm:n≤1048576) :
  Calls Tryz.prog 94 #[v,.int .i64 k] w fun r w'=>r=.returned (.int .i64 (k+14*n))∧New w' lo v n 14 (uL 14 k)∧w.grownBy w' v.ownBlock:=by
 rcases h with ⟨rfl,rfl⟩|⟨g,cap,rfl,hl,hL⟩
 ·go_enter Tryz.func94,Tryz.ntmps94
  go_wp2
  go_loopw [1,5] (fun q i wr=>i=.int .i64 0∧q=.int .i64 k∧wr=w) (fun _ i _=>0 - (intOf i).toNat)
  case atStart=>exact ⟨rfl,rfl,rfl⟩
  case round =>
   obtain ⟨rfl,rfl,rfl⟩:=hrel
   go_wp2
   go_ret
   exact ⟨by simp,.inl ⟨rfl,rfl⟩,L9 _ _⟩
 ·have hW:=L9 w (some g)
  go_enter Tryz.func94,Tryz.ntmps94
  go_wp2
  go_loopw [1,5] (fun q i wr=>∃ m:Nat,m≤n∧i=.int .i64 m∧q=.int .i64 (k+14*m)∧Lie wr g n 14 (l8 (uL 14 k) f m)∧w.grownBy wr (some g)) (fun _ i _=>n - (intOf i).toNat)
  case atStart=>exact ⟨0,Nat.zero_le _,rfl,by simp,by rw [qI];exact hL,hW⟩
  case round =>
   clear hL hW
   obtain ⟨m,hk,rfl,rfl,hL,hW⟩:=hrel
   by_cases hlt:m<n
   ·
    have e0:=hL.cell hlt (show 0<14 by omega)
    have e1:=hL.cell hlt (show 1<14 by omega)
    have e2:=hL.cell hlt (show 2<14 by omega)
    have e3:=hL.cell hlt (show 3<14 by omega)
    have e4:=hL.cell hlt (show 4<14 by omega)
    have e5:=hL.cell hlt (show 5<14 by omega)
    have e6:=hL.cell hlt (show 6<14 by omega)
    have e7:=hL.cell hlt (show 7<14 by omega)
    have e8:=hL.cell hlt (show 8<14 by omega)
    have e9:=hL.cell hlt (show 9<14 by omega)
    have e10:=hL.cell hlt (show 10<14 by omega)
    have e11:=hL.cell hlt (show 11<14 by omega)
    have e12:=hL.cell hlt (show 12<14 by omega)
    have e13:=hL.cell hlt (show 13<14 by omega)
    simp only [Nat.add_zero] at e0
    have f1:=hL.frozen
    go_wp2
    go_roundw
    case rel=>exact ⟨m+1,by omega,by go_num,by go_num,(hL.set14 hlt (sI k m)).congr (fun i j _ hj=>lZ (Ar k m j hj) i),(qF (qF (qF (qF (qF (qF (qF (qF (qF (qF (qF (qF (qF (qF hW rfl) rfl) rfl) rfl) rfl) rfl) rfl) rfl) rfl) rfl) rfl) rfl) rfl) rfl)⟩
    case measure=>simp [intOf];omega
   ·have:m=n:=by omega
    subst this
    go_wp2
    go_ret
    exact ⟨rfl,.inr ⟨g,cap,rfl,hl,hL.congr (nG _ _ m 14)⟩,hW⟩
theorem Au (n:Nat) (a:Option Addr) (cap:Nat) (left:Int) (w:World) (h0:0≤left) (h1:left≤1048576) (hm:n≤maxLen) :
  Calls Tryz.prog 85 #[.slice a n cap,.int .i64 left] w fun r w'=>r=.returned (.int .i64 (if left<n then -1 else left - n))∧w=w':=by
 unfold maxLen at hm
 by_cases h:left<n
 ·have hn:left - n<0:=by omega
  rw [if_pos h]
  clear h
  go_enter Tryz.func85,Tryz.ntmps85
  go_wp2
  go_ret
  exact ⟨rfl,rfl⟩
 ·have hn:¬ left - n<0:=by omega
  rw [if_neg h]
  go_enter Tryz.func85,Tryz.ntmps85
  go_wp2
  go_ret
  exact ⟨rfl,rfl⟩
end
section
open Go.RowKit
def sJ (k:Int) (m:Nat):Nat→Value
 | 0=>.int .i64 (k+7*(m:Int))
 | 1=>.int .i64 (k+7*(m:Int)+1)
 | 2=>.int .i64 (k+7*(m:Int)+1+1)
 | 3=>.int .i64 (k+7*(m:Int)+1+1+1)
 | 4=>.int .i64 (k+7*(m:Int)+1+1+1+1)
 | 5=>.int .i64 (k+7*(m:Int)+1+1+1+1+1)
 | _=>.int .i64 (k+7*(m:Int)+1+1+1+1+1+1)
theorem Av (k:Int) (m:Nat):∀ j,j<7→sJ k m j=uL 7 k m j:=by
 intro j hj
 have:j=0∨j=1∨j=2∨j=3∨j=4∨j=5∨j=6:=by omega
 rcases this with rfl|rfl|rfl|rfl|rfl|rfl|rfl <;> (simp only [sJ,uL];congr 1 <;> omega)
theorem uN (n:Nat) (f:Nat→Nat→Value) (lo:Nat) (v:Value) (k:Int) (w:World) (h:New w lo v n 7 f) (h0:0≤k) (h1:k≤1099511627776) (hm:n≤1048576) :
  Calls Tryz.prog 95 #[v,.int .i64 k] w fun r w'=>r=.returned (.int .i64 (k+7*n))∧New w' lo v n 7 (uL 7 k)∧w.grownBy w' v.ownBlock:=by
 rcases h with ⟨rfl,rfl⟩|⟨g,cap,rfl,hl,hL⟩
 ·go_enter Tryz.func95,Tryz.ntmps95
  go_wp2
  go_loopw [1,5] (fun q i wr=>i=.int .i64 0∧q=.int .i64 k∧wr=w) (fun _ i _=>0 - (intOf i).toNat)
  case atStart=>exact ⟨rfl,rfl,rfl⟩
  case round =>
   obtain ⟨rfl,rfl,rfl⟩:=hrel
   go_wp2
   go_ret
   exact ⟨by simp,.inl ⟨rfl,rfl⟩,L9 _ _⟩
 ·have hW:=L9 w (some g)
  go_enter Tryz.func95,Tryz.ntmps95
  go_wp2
  go_loopw [1,5] (fun q i wr=>∃ m:Nat,m≤n∧i=.int .i64 m∧q=.int .i64 (k+7*m)∧Lie wr g n 7 (l8 (uL 7 k) f m)∧w.grownBy wr (some g)) (fun _ i _=>n - (intOf i).toNat)
  case atStart=>exact ⟨0,Nat.zero_le _,rfl,by simp,by rw [qI];exact hL,hW⟩
  case round =>
   clear hL hW
   obtain ⟨m,hk,rfl,rfl,hL,hW⟩:=hrel
   by_cases hlt:m<n
   ·
    have e0:=hL.cell hlt (show 0<7 by omega)
    have e1:=hL.cell hlt (show 1<7 by omega)
    have e2:=hL.cell hlt (show 2<7 by omega)
    have e3:=hL.cell hlt (show 3<7 by omega)
    have e4:=hL.cell hlt (show 4<7 by omega)
    have e5:=hL.cell hlt (show 5<7 by omega)
    have e6:=hL.cell hlt (show 6<7 by omega)
    simp only [Nat.add_zero] at e0
    have f1:=hL.frozen
    go_wp2
    go_roundw
    case rel=>exact ⟨m+1,by omega,by go_num,by go_num,(hL.set7 hlt (sJ k m)).congr (fun i j _ hj=>lZ (Av k m j hj) i),(qF (qF (qF (qF (qF (qF (qF hW rfl) rfl) rfl) rfl) rfl) rfl) rfl)⟩
    case measure=>simp [intOf];omega
   ·have:m=n:=by omega
    subst this
    go_wp2
    go_ret
    exact ⟨rfl,.inr ⟨g,cap,rfl,hl,hL.congr (nG _ _ m 7)⟩,hW⟩
theorem Aw (n:Nat) (a:Option Addr) (cap:Nat) (left:Int) (w:World) (h0:0≤left) (h1:left≤1048576) (hm:n≤maxLen) :
  Calls Tryz.prog 86 #[.slice a n cap,.int .i64 left] w fun r w'=>r=.returned (.int .i64 (if left<n then -1 else left - n))∧w=w':=by
 unfold maxLen at hm
 by_cases h:left<n
 ·have hn:left - n<0:=by omega
  rw [if_pos h]
  clear h
  go_enter Tryz.func86,Tryz.ntmps86
  go_wp2
  go_ret
  exact ⟨rfl,rfl⟩
 ·have hn:¬ left - n<0:=by omega
  rw [if_neg h]
  go_enter Tryz.func86,Tryz.ntmps86
  go_wp2
  go_ret
  exact ⟨rfl,rfl⟩
end
section
open Go.RowKit
def gm (w:World) (B:Nat) (x:Wo) (a b d e:Option Addr):Prop:=eY w B a x.ch.cells∧eZ w B b x.ch.words∧Gh w B d x.hands∧Jj w B e x.deals
def iZ (x:Wo):Prop:=x.ch.cells.length≤1048576∧x.ch.words.length≤1048576∧x.hands.length≤1048576∧x.deals.length≤1048576
def gJ (w:World) (lo:Nat) (x:Wo) (g1 g2 g3 g4:Nat):Prop:=(lo≤g1∧lo≤g2∧lo≤g3∧lo≤g4)∧Row w g1 93 x.ch.cells.length 3 (eT x.ch.cells)∧Row w g2 2 x.ch.words.length 1 (fP x.ch.words)∧Row w g3 49 x.hands.length 14 (gB x.hands)∧Row w g4 44 x.deals.length 7 (l7 x.deals)
theorem gm.below {w w':World} {B:Nat} {x:Wo} {a b d e:Option Addr} (h:gm w B x a b d e) (hb:Below B w w'):gm w' B x a b d e:=⟨h.1.below hb,h.2.1.below hb,h.2.2.1.below hb,h.2.2.2.below hb⟩
theorem gm.more {w:World} {B B':Nat} {x:Wo} {a b d e:Option Addr} (h:gm w B x a b d e) (hb:B≤B'):gm w B' x a b d e:=⟨h.1.more hb,h.2.1.more hb,h.2.2.1.more hb,h.2.2.2.more hb⟩
theorem gJ.below {w w':World} {lo B:Nat} {x:Wo} {g1 g2 g3 g4:Nat} (h:gJ w lo x g1 g2 g3 g4) (hb:Below B w w') (hB:w.heap.size≤B):gJ w' lo x g1 g2 g3 g4:=⟨h.1,h.2.1.below hb (Nat.lt_of_lt_of_le h.2.1.lt hB),h.2.2.1.below hb (Nat.lt_of_lt_of_le h.2.2.1.lt hB),h.2.2.2.1.below hb (Nat.lt_of_lt_of_le h.2.2.2.1.lt hB),h.2.2.2.2.below hb (Nat.lt_of_lt_of_le h.2.2.2.2.lt hB)⟩
theorem gJ.seg {w:World} {lo:Nat} {x:Wo} {g1 g2 g3 g4:Nat} (h:gJ w lo x g1 g2 g3 g4):gm w w.heap.size x (some ⟨g1,0,none⟩) (some ⟨g2,0,none⟩) (some ⟨g3,0,none⟩) (some ⟨g4,0,none⟩):=⟨h.2.1.seg,h.2.2.1.seg,h.2.2.2.1.seg,h.2.2.2.2.seg⟩
theorem Row.ty {w:World} {b b' n n' k k':Nat} {t t':TypeId} {f f':Nat→Nat→Value} (h:Row w b t n k f) (h':Row w b' t' n' k' f') (hne:t≠t'):b≠b':=by
 rintro rfl
 obtain ⟨c,hb,_⟩:=h
 obtain ⟨c',hb',_⟩:=h'
 rw [hb] at hb'
 simp at hb'
 exact hne hb'.2
theorem Ay (x:Wo) (a b d e:Option Addr) (p q r s:Nat) (w:World) (h:gm w w.heap.size x a b d e) (m:iZ x) :
  Calls Tryz.prog 39 #[zY x a b d e p q r s] w fun r' w'=>(∃ g1 g2 g3 g4,r'=.returned (.agg #[.int .i64 x.ch.cap,.int .i64 x.ch.sent,.int .i64 x.ch.got,.int .i64 x.ch.fin,.slice (some ⟨g1,0,none⟩) x.ch.cells.length x.ch.cells.length,.slice (some ⟨g2,0,none⟩) x.ch.words.length x.ch.words.length,.slice (some ⟨g3,0,none⟩) x.hands.length x.hands.length,.slice (some ⟨g4,0,none⟩) x.deals.length x.deals.length,.int .i64 x.now])∧gJ w' w.heap.size x g1 g2 g3 g4)∧Below w.heap.size w w':=by
 obtain ⟨⟨cap,sent,got,fin,cells,words⟩,hands,deals,now⟩:=x
 obtain ⟨m1,m2,m3,m4⟩:=m
 have H1:=Lib.hid h.1
 have H2:=Lib.hid h.2.1
 have H3:=Lib.hid h.2.2.1
 have H4:=Lib.hid h.2.2.2
 simp only at *
 clear h
 go_enter Tryz.func39,Tryz.ntmps39
 go_wp2_with fail
 refine (CU ⟨cap,sent,got,fin,cells,words⟩ a b p q _ (((H1.out).below zB).more (by simp;try omega)) (((H2.out).below zB).more (by simp;try omega)) m1 m2).mono ?_
 rintro _ w1 ⟨⟨g1,g2,rfl,hg1,hg2,tC,hR2⟩,hb1⟩
 have hB1:Below w.heap.size w w1:=bT zB hb1
 have hs1:=hb1.size
 simp at hs1 hg1 hg2
 have:=fun o=>hb1.cell (p:=⟨w.heap.size,o,none⟩) (by simp [World.setCell];try omega)
 have:=fun o=>hb1.frozen (p:=⟨w.heap.size,o,none⟩) (by simp [World.setCell];try omega)
 have:=fun o=>hb1.cell (p:=⟨w.heap.size+1,o,none⟩) (by simp [World.setCell];try omega)
 have:=fun o=>hb1.frozen (p:=⟨w.heap.size+1,o,none⟩) (by simp [World.setCell];try omega)
 have:=fun o=>hb1.cell (p:=⟨w.heap.size+1+1,o,none⟩) (by simp [World.setCell];try omega)
 have:=fun o=>hb1.frozen (p:=⟨w.heap.size+1+1,o,none⟩) (by simp [World.setCell];try omega)
 have:w.heap.size<w1.heap.size:=by omega
 have:w.heap.size+1<w1.heap.size:=by omega
 have:w.heap.size+1+1<w1.heap.size:=by omega
 have hl1:=tC.lt
 have hl2:=hR2.lt
 have HR1:=Lib.hid tC
 have HR2:=Lib.hid hR2
 clear hb1 tC hR2
 go_wp2_with fail
 refine (Al hands d r _ (((H3.out).below zB).more (by simp [World.setCell];try omega)) m3).mono ?_
 rintro _ w2 ⟨rfl,MP,hb2⟩
 have hB2:Below w.heap.size w w2:=bT zB hb2
 have hs2:=hb2.size
 simp [World.setCell] at hs2 MP
 have:=fun o=>hb2.cell (p:=⟨w.heap.size,o,none⟩) (by simp [World.setCell];try omega)
 have:=fun o=>hb2.frozen (p:=⟨w.heap.size,o,none⟩) (by simp [World.setCell];try omega)
 have:=fun o=>hb2.cell (p:=⟨w.heap.size+1,o,none⟩) (by simp [World.setCell];try omega)
 have:=fun o=>hb2.frozen (p:=⟨w.heap.size+1,o,none⟩) (by simp [World.setCell];try omega)
 have:=fun o=>hb2.cell (p:=⟨w.heap.size+1+1,o,none⟩) (by simp [World.setCell];try omega)
 have:=fun o=>hb2.frozen (p:=⟨w.heap.size+1+1,o,none⟩) (by simp [World.setCell];try omega)
 have:w.heap.size<w2.heap.size:=by omega
 have:w.heap.size+1<w2.heap.size:=by omega
 have:w.heap.size+1+1<w2.heap.size:=by omega
 have hl3:=MP.lt
 have Nv:Row w2 g1 93 cells.length 3 (eT cells):=Row.below (by repeat (first|with_reducible exact HR1.out|((with_reducible refine Row.setOther ?_ ?_ _);rotate_left;(focus ((try simp);(try omega)))))) hb2 (by simp [World.setCell];try omega)
 have Nw:Row w2 g2 2 words.length 1 (fP words):=Row.below (by repeat (first|with_reducible exact HR2.out|((with_reducible refine Row.setOther ?_ ?_ _);rotate_left;(focus ((try simp);(try omega)))))) hb2 (by simp [World.setCell];try omega)
 have OY:=Lib.hid Nv
 have OZ:=Lib.hid Nw
 have HR3:=Lib.hid MP
 clear hb2 Nv Nw MP
 go_wp2_with fail
 refine (Ap deals e s _ (((H4.out).below zB).more (by simp [World.setCell];try omega)) m4).mono ?_
 rintro _ w3 ⟨rfl,Ol,hb3⟩
 have hB3:Below w.heap.size w w3:=bT zB hb3
 have hs3:=hb3.size
 simp [World.setCell] at hs3 Ol
 have:=fun o=>hb3.cell (p:=⟨w.heap.size,o,none⟩) (by simp [World.setCell];try omega)
 have:=fun o=>hb3.frozen (p:=⟨w.heap.size,o,none⟩) (by simp [World.setCell];try omega)
 have:=fun o=>hb3.cell (p:=⟨w.heap.size+1,o,none⟩) (by simp [World.setCell];try omega)
 have:=fun o=>hb3.frozen (p:=⟨w.heap.size+1,o,none⟩) (by simp [World.setCell];try omega)
 have:=fun o=>hb3.cell (p:=⟨w.heap.size+1+1,o,none⟩) (by simp [World.setCell];try omega)
 have:=fun o=>hb3.frozen (p:=⟨w.heap.size+1+1,o,none⟩) (by simp [World.setCell];try omega)
 have:w.heap.size<w3.heap.size:=by omega
 have:w.heap.size+1<w3.heap.size:=by omega
 have:w.heap.size+1+1<w3.heap.size:=by omega
 have hl4:=Ol.lt
 have k1:Row w3 g1 93 cells.length 3 (eT cells):=Row.below (by repeat (first|with_reducible exact OY.out|((with_reducible refine Row.setOther ?_ ?_ _);rotate_left;(focus ((try simp);(try omega)))))) hb3 (by simp [World.setCell];try omega)
 have k2:Row w3 g2 2 words.length 1 (fP words):=Row.below (by repeat (first|with_reducible exact OZ.out|((with_reducible refine Row.setOther ?_ ?_ _);rotate_left;(focus ((try simp);(try omega)))))) hb3 (by simp [World.setCell];try omega)
 have k3:Row w3 w1.heap.size 49 hands.length 14 (gB hands):=Row.below (by repeat (first|with_reducible exact HR3.out|((with_reducible refine Row.setOther ?_ ?_ _);rotate_left;(focus ((try simp);(try omega)))))) hb3 (by simp [World.setCell];try omega)
 have K1:=Lib.hid k1
 have K2:=Lib.hid k2
 have K3:=Lib.hid k3
 have K4:=Lib.hid Ol
 clear hb3 k1 k2 k3 Ol
 go_wp2_with fail
 refine bodyPost_ret (v:=.agg #[.int .i64 (⟨⟨cap,sent,got,fin,cells,words⟩,hands,deals,now⟩:Wo).ch.cap,.int .i64 (⟨⟨cap,sent,got,fin,cells,words⟩,hands,deals,now⟩:Wo).ch.sent,.int .i64 (⟨⟨cap,sent,got,fin,cells,words⟩,hands,deals,now⟩:Wo).ch.got,.int .i64 (⟨⟨cap,sent,got,fin,cells,words⟩,hands,deals,now⟩:Wo).ch.fin,.slice (some ⟨g1,0,none⟩) cells.length cells.length,.slice (some ⟨g2,0,none⟩) words.length words.length,.slice (some ⟨w1.heap.size,0,none⟩) hands.length hands.length,.slice (some ⟨w2.heap.size,0,none⟩) deals.length deals.length,.int .i64 (⟨⟨cap,sent,got,fin,cells,words⟩,hands,deals,now⟩:Wo).now]) (by simp [results,Tryz.results39,go_sem, *]) rfl ⟨⟨g1,g2,w1.heap.size,w2.heap.size,rfl,⟨by omega,by omega,by omega,by omega⟩,?_,?_,?_,?_⟩,?_⟩
 ·repeat (first|with_reducible exact K1.out|((with_reducible refine Row.setOther ?_ ?_ _);rotate_left;(focus ((try simp);(try omega)))))
 ·repeat (first|with_reducible exact K2.out|((with_reducible refine Row.setOther ?_ ?_ _);rotate_left;(focus ((try simp);(try omega)))))
 ·repeat (first|with_reducible exact K3.out|((with_reducible refine Row.setOther ?_ ?_ _);rotate_left;(focus ((try simp);(try omega)))))
 ·repeat (first|with_reducible exact K4.out|((with_reducible refine Row.setOther ?_ ?_ _);rotate_left;(focus ((try simp);(try omega)))))
 ·exact zB
theorem ng (x:Wo) (a b d e a' b' d' e':Option Addr) (p q r s p' q' r' s':Nat) (w:World) (h:gm w w.heap.size x a b d e) (h':gm w w.heap.size x a' b' d' e') (m:iZ x) :
  Calls Tryz.prog 41 #[zY x a b d e p q r s,.agg #[.int .i64 x.ch.cap,.int .i64 x.ch.sent,.int .i64 x.ch.got,.int .i64 x.ch.fin,.slice a' x.ch.cells.length p',.slice b' x.ch.words.length q',.slice d' x.hands.length r',.slice e' x.deals.length s',.int .i64 x.now]] w fun r w'=>r=.returned (.bool true)∧Below w.heap.size w w':=by
 obtain ⟨⟨cap,sent,got,fin,cells,words⟩,hands,deals,now⟩:=x
 obtain ⟨m1,m2,m3,m4⟩:=m
 have H:=Lib.hid h
 have H':=Lib.hid h'
 simp only at *
 clear h h'
 go_enter Tryz.func41,Tryz.ntmps41
 go_wp2_with fail
 refine (CV ⟨cap,sent,got,fin,cells,words⟩ a b a' b' p q p' q' _ (((H.out.1).below zB).more (by simp;try omega)) (((H.out.2.1).below zB).more (by simp;try omega)) (((H'.out.1).below zB).more (by simp;try omega)) (((H'.out.2.1).below zB).more (by simp;try omega)) m1 m2).mono ?_
 rintro _ w1 ⟨rfl,hb1⟩
 have hB1:Below w.heap.size w w1:=bT zB hb1
 have hs1:=hb1.size
 try simp at hs1
 have:=fun o=>hb1.cell (p:=⟨w.heap.size,o,none⟩) (by simp [World.setCell];try omega)
 have:=fun o=>hb1.frozen (p:=⟨w.heap.size,o,none⟩) (by simp [World.setCell];try omega)
 have:=fun o=>hb1.cell (p:=⟨w.heap.size+1,o,none⟩) (by simp [World.setCell];try omega)
 have:=fun o=>hb1.frozen (p:=⟨w.heap.size+1,o,none⟩) (by simp [World.setCell];try omega)
 clear hb1
 go_wp2_with fail
 refine (Am hands d d' r r' _ (((H.out.2.2.1).below hB1).more tO) (((H'.out.2.2.1).below hB1).more tO) m3).mono ?_
 rintro _ w2 ⟨rfl,hb2⟩
 have hB2:Below w.heap.size w w2:=bT hB1 hb2
 have hs2:=hb2.size
 have:=fun o=>hb2.cell (p:=⟨w.heap.size,o,none⟩) (by simp [World.setCell];try omega)
 have:=fun o=>hb2.frozen (p:=⟨w.heap.size,o,none⟩) (by simp [World.setCell];try omega)
 have:=fun o=>hb2.cell (p:=⟨w.heap.size+1,o,none⟩) (by simp [World.setCell];try omega)
 have:=fun o=>hb2.frozen (p:=⟨w.heap.size+1,o,none⟩) (by simp [World.setCell];try omega)
 clear hb2
 go_wp2_with fail
 refine (Aq deals e e' s s' _ (((H.out.2.2.2).below hB2).more tO) (((H'.out.2.2.2).below hB2).more tO) m4).mono ?_
 rintro _ w3 ⟨rfl,hb3⟩
 have hB3:Below w.heap.size w w3:=bT hB2 hb3
 have hs3:=hb3.size
 have:=fun o=>hb3.cell (p:=⟨w.heap.size,o,none⟩) (by simp [World.setCell];try omega)
 have:=fun o=>hb3.frozen (p:=⟨w.heap.size,o,none⟩) (by simp [World.setCell];try omega)
 have:=fun o=>hb3.cell (p:=⟨w.heap.size+1,o,none⟩) (by simp [World.setCell];try omega)
 have:=fun o=>hb3.frozen (p:=⟨w.heap.size+1,o,none⟩) (by simp [World.setCell];try omega)
 clear hb3
 go_wp2
 go_ret
 exact ⟨rfl,by exact zB⟩
theorem Az {l:Int} {n:Nat} (h:0≤nP l n):(n:Int)≤l∧nP l n=l - n:=by
 unfold nP at *
 split at h <;> rename_i hh
 ·omega
 ·rw [if_neg hh];omega
theorem IG {l:Int} {c:Ch} (h:0≤mX l c):(c.cells.length:Int)≤l∧(c.words.length:Int)≤l∧mX l c≤l:=by
 unfold mX at *
 split at h <;> rename_i hh
 ·omega
 ·rw [if_neg hh]
  have h1:=Az (show 0≤nP l c.cells.length by omega)
  have h2:=Az h
  omega
theorem ni (x:Wo) (a b d e:Option Addr) (p q r s:Nat) (left:Int) (w:World) (h0:0≤left) (h1:left≤1048576) (m1:x.ch.cells.length≤maxLen) (m2:x.ch.words.length≤maxLen) (m3:x.hands.length≤maxLen) (m4:x.deals.length≤maxLen) :
  Calls Tryz.prog 38 #[zY x a b d e p q r s,.int .i64 left] w fun r' w'=>(∃ z:Int,r'=.returned (.int .i64 z)∧(0≤z→iZ x))∧Below w.heap.size w w':=by
 obtain ⟨⟨cap,sent,got,fin,cells,words⟩,hands,deals,now⟩:=x
 simp only at *
 have M3:=Lib.hid m3
 have M4:=Lib.hid m4
 clear m3 m4
 obtain ⟨l1,e1⟩:∃ l,mX left ⟨cap,sent,got,fin,cells,words⟩=l:=⟨_,rfl⟩
 have hC:=CW ⟨cap,sent,got,fin,cells,words⟩ a b p q left
 rw [e1] at hC
 go_enter Tryz.func38,Tryz.ntmps38
 go_wp2_with fail
 refine (hC _ h0 h1 m1 m2).mono ?_
 rintro _ w1 ⟨rfl,hb1⟩
 have hB1:Below w.heap.size w w1:=bT zB hb1
 have hs1:=hb1.size
 try simp at hs1
 have:=fun o=>hb1.cell (p:=⟨w.heap.size,o,none⟩) (by simp;try omega)
 clear hC
 by_cases hn1:l1<0
 ·clear e1
  go_wp2
  go_ret
  exact ⟨⟨-1,rfl,fun hz=>by omega⟩,hB1⟩
 have hq:=IG (l:=left) (c:=⟨cap,sent,got,fin,cells,words⟩) (by rw [e1];omega)
 rw [e1] at hq
 clear e1
 simp only at hq
 obtain ⟨l2,e2⟩:∃ l,(if l1<(hands.length:Int) then (-1:Int) else l1 - hands.length)=l:=⟨_,rfl⟩
 have E2:=Lib.hid e2
 have hH:=Au hands.length d r l1
 rw [e2] at hH
 clear e2
 go_wp2_with fail
 refine (hH _ tO tO M3.out).mono ?_
 rintro _ _ ⟨rfl,rfl⟩
 clear hH
 by_cases hn2:l2<0
 ·go_wp2
  go_ret
  exact ⟨⟨-1,rfl,fun hz=>by omega⟩,hB1⟩
 have hq2:(hands.length:Int)≤l1∧l2=l1 - hands.length:=by
  have:=E2.out
  split at this <;> omega
 clear E2
 obtain ⟨l3,e3⟩:∃ l,(if l2<(deals.length:Int) then (-1:Int) else l2 - deals.length)=l:=⟨_,rfl⟩
 have E3:=Lib.hid e3
 have hD:=Aw deals.length e s l2
 rw [e3] at hD
 clear e3
 have MQ:=Lib.hid hq2
 clear hq2
 go_wp2_with fail
 refine (hD _ tO (by have:=MQ.out;omega) M4.out).mono ?_
 rintro _ _ ⟨rfl,rfl⟩
 clear hD
 by_cases MR:l3<0
 ·go_wp2
  go_ret
  exact ⟨⟨-1,rfl,fun hz=>by omega⟩,hB1⟩
 have hq3:(deals.length:Int)≤l2:=by
  have:=E3.out
  split at this <;> omega
 clear E3
 have Qp:=Lib.hid hq3
 clear hq3
 go_wp2
 go_ret
 exact ⟨⟨l3,rfl,fun hz=>by have:=MQ.out;have:=Qp.out;exact ⟨by show cells.length≤_;omega,by show words.length≤_;omega,by show hands.length≤_;omega,by show deals.length≤_;omega⟩⟩,hB1⟩
end
end Go.Proofs.YtffhjmepfojhnaaGreat
