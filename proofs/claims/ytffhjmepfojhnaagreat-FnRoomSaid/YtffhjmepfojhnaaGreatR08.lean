/-
  The laws' helpers that write numbers into a list of the call's own, and that look for them; lists of at most 1048576 elements.
-/
import Derived.Test.YtffhjmepfojhnaaGreatR07
import Derived.Test.YtffhjmepfojhnaaGreatR01
import Derived.Test.YtffhjmepfojhnaaGreatR02
import Derived.BigRegion
import Derived.Test.YtffhjmepfojhnaaGreatR03
import Derived.Test.YtffhjmepfojhnaaGreatR04
set_option maxRecDepth 100000
set_option maxHeartbeats 4000000
set_option linter.unusedSimpArgs false
set_option linter.unusedVariables false
namespace Go.Proofs.YtffhjmepfojhnaaGreat
section
open Go.RowKit
end
section
open Go.RowKit
end
section
open Go.RowKit
theorem J4 (w:World):(isAgg 164).run Tryz.prog w=.ok true w:=by simp [isAgg,go_sem]
theorem Mq (w:World):(sizeOf 164).run Tryz.prog w=.ok 14 w:=by simp [go_sem]
theorem Df {w:World} {b:Nat} (h:okO 14 (hp w b)=true):(loadVar 164 ⟨b,0,none⟩).run Tryz.prog w=.ok (.agg (iF (hp w b))) w:=mI J4 Mq h
theorem Gn {w:World} {b:Nat} (h:okO 14 (hp w b)=true):(Instr.loadAt 164 (.pointer (some ⟨b,0,none⟩))).run Tryz.prog w=.ok (.agg (iF (hp w b))) w:=by
 simp only [Instr.loadAt,Instr.sureAddr,Sem.run_bind,Sem.run_pure,Result.andThen_ok,Df h]
def Dh (x:Value):Sem Value:=Instr.loadAt 164 x
theorem J5 (x:Value):Instr.loadAt 164 x=Dh x:=by unfold Dh;simp
theorem Gp {w:World} {b:Nat} (h:okO 14 (hp w b)=true):(Dh (.pointer (some ⟨b,0,none⟩))).run Tryz.prog w=.ok (.agg (iF (hp w b))) w:=Gn h
theorem J6 (w:World):(isAgg 64).run Tryz.prog w=.ok true w:=by simp [isAgg,go_sem]
theorem Mr (w:World):(sizeOf 64).run Tryz.prog w=.ok 6 w:=by simp [go_sem]
theorem Di {w:World} {b:Nat} (h:okO 6 (hp w b)=true):(loadVar 64 ⟨b,0,none⟩).run Tryz.prog w=.ok (.agg (iF (hp w b))) w:=mI J6 Mr h
theorem Gq {w:World} {b:Nat} (h:okO 6 (hp w b)=true):(Instr.loadAt 64 (.pointer (some ⟨b,0,none⟩))).run Tryz.prog w=.ok (.agg (iF (hp w b))) w:=by
 simp only [Instr.loadAt,Instr.sureAddr,Sem.run_bind,Sem.run_pure,Result.andThen_ok,Di h]
def NV (x:Value):Sem Value:=Instr.loadAt 64 x
theorem Gs {w:World} {b:Nat} (h:okO 6 (hp w b)=true):(NV (.pointer (some ⟨b,0,none⟩))).run Tryz.prog w=.ok (.agg (iF (hp w b))) w:=Gq h
attribute [go_sem] Gp Gs
attribute [local go_sem ↓] aB aL aM aG au
end
section
open Go.RowKit
attribute [local go_sem ↓] aB aL aM aG au
end
section
open Go.RowKit
attribute [local simp] aC
attribute [local go_sem ↓] aB aU aL bB aM bC aG aN au aF
theorem lZ (c:Ch) (a b:Option Addr) (p q:Nat) (w:World) (h1:eY w w.heap.size a c.cells) (h2:eQ w w.heap.size b c.words) :
  Calls Tryz.prog 112 #[.agg (af c (.slice a c.cells.length p) (.slice b c.words.length q))] w fun r w'=>r=.returned (.bool (aK c))∧Below w.heap.size w w':=kI c a b p q w h1 h2
theorem dA (c:Ch) (a b:Option Addr) (p q:Nat) (w:World) (h1:eY w w.heap.size a c.cells) (z1:a=none→p=0) (h2:eQ w w.heap.size b c.words) (z2:b=none→q=0) (m1:c.cells.length≤1099511627776) (m2:c.words.length≤1099511627776) :
  Calls Tryz.prog 123 #[.agg (af c (.slice a c.cells.length p) (.slice b c.words.length q))] w fun r w'=>(∃ v1 v2,r=.returned (.agg (af c v1 v2))∧ag w' w.heap.size v1 c.cells∧ai w' w.heap.size v2 c.words)∧Below w.heap.size w w':=tK c a b p q w h1 z1 h2 z2 m1 m2
theorem oJ (c:Ch) (v x:Int) (a b:Option Addr) (p q:Nat) (w:World) (h1:eY w w.heap.size a c.cells) (z1:a=none→p=0) (h2:eQ w w.heap.size b c.words) (z2:b=none→q=0) (m1:c.cells.length≤1099511627776) (m2:c.words.length≤1099511627776) :
  Calls Tryz.prog 72 #[.agg (af c (.slice a c.cells.length p) (.slice b c.words.length q)),.int .i64 v,.int .i64 x] w fun r w' =>
   (∃ v1 v2,r=.returned (.tuple #[.agg (af c v1 v2),.bool (fo c v x)])∧ag w' w.heap.size v1 c.cells∧ai w' w.heap.size v2 (dN c v x).words)∧Below w.heap.size w w':=CS c v x a b p q w h1 z1 h2 z2 m1 m2
theorem d9 (c:Ch) (h:Ha) (f t k:Int) (a b:Option Addr) (p q:Nat) (w:World) (h1:eY w w.heap.size a c.cells) (h2:eQ w w.heap.size b c.words) :
  Calls Tryz.prog 196 #[.agg (af c (.slice a c.cells.length p) (.slice b c.words.length q)),.agg (aa h),.int .i64 f,.int .i64 t,.int .i64 k] w fun r w'=>r=.returned (.bool (bf c h f t k))∧Below w.heap.size w w':=by
 have H1:=Lib.hid h1
 have H2:=Lib.hid h2
 clear h1 h2
 go_enter Tryz.func196,Tryz.ntmps196
 go_wp2_with (first|(go_at_call 112;refine ax w zB fun bb=>?_;refine (lZ c a b p q _ (aT H1 bb) (aT H2 bb)).mono ?_;rintro _ w1 ⟨rfl,ah⟩;obtain ⟨aW,ay,zz⟩:=CK bb ah (b:=w.heap.size);(try simp at ay);(try simp [go_sem] at zz);replace bX:=zS zz;clear zz ah bb)|(go_at_call 119;refine ax w zB fun bb=>?_;refine (j5 _ _).mono ?_;rintro _ w2 ⟨rfl,hbw2⟩;obtain ⟨dE,bu,zz⟩:=CK bb hbw2 (b:=w.heap.size);(try simp at bu);(first|simp [go_sem,bX] at zz|simp [go_sem] at zz|skip);replace bX:=zS zz;clear zz hbw2 bb)|(go_at_call 121;refine (fQ _ _ _ _).mono ?_;rintro _ _ ⟨rfl,rfl⟩))
 all_goals go_ret
 all_goals exact ⟨bF (by simp_all [bf]),by exact zB⟩
theorem J7 {c:Ch} {h:Ha} (h1:aK c=true) (h2:bW h=true):done c h=(c,h,true):=by simp [done,h1,h2]
theorem J8 {c:Ch} {h:Ha} (h1:aK c=false):done c h=nothing:=by simp [done,h1]
theorem J9 {c:Ch} {h:Ha} (h1:bW h=false):done c h=nothing:=by simp [done,h1]
def dW (w:World) (v v':Value):Prop:=∀ j,v'.ownBlock=some j→v.ownBlock=some j∨w.heap.size≤j
theorem ak (w:World) (v:Value):dW w v v:=fun _ h=>.inl h
theorem xy (w:World) (v:Value) (n c:Nat):dW w v (.slice none n c):=fun _ h=>by cases h
theorem dW.off {w w0:World} {v v':Value} (h:dW w v v') (hv:∀ j,v.ownBlock=some j→j<w0.heap.size) {b:Nat} (h1:w0.heap.size≤b) (h2:b<w.heap.size):v'.ownBlock≠some b:=fun e=>by
 rcases h b e with h|h
 ·have:=hv b h;omega
 ·omega
def tN (w w':World) (lo:Nat) (v1 v2:Value) (x:St) (r:Ending):Prop:=∃ y1 y2,r=.returned (.tuple #[.agg (af x.1 y1 y2),.agg (aa x.2.1),.bool x.2.2])∧ag w' lo y1 x.1.cells∧ai w' lo y2 x.1.words∧dW w v1 y1∧dW w v2 y2
theorem sO {w wk Rw:World} {v v' u u':Value} (lim:Nat) (f1:dW wk v v') (f2:dW Rw u u') (b1:∀ j,v.ownBlock=some j→j<w.heap.size) (b2:∀ j,u.ownBlock=some j→j<w.heap.size) (h:lim≤wk.heap.size:=by (try simp) <;> omega) (h2:lim≤Rw.heap.size:=by (try simp) <;> omega) (g:w.heap.size≤wk.heap.size:=by (try simp) <;> omega) (g2:w.heap.size≤Rw.heap.size:=by (try simp) <;> omega):((∀ j,w.heap.size≤j→j<lim→v'.ownBlock≠some j)∧(∀ j,w.heap.size≤j→j<lim→u'.ownBlock≠some j))∧dW w v v'∧dW w u u' :=
 ⟨⟨fun _ h1 k=>f1.off b1 h1 (Nat.lt_of_lt_of_le k h),fun _ h1 k=>f2.off b2 h1 (Nat.lt_of_lt_of_le k h2)⟩,fun j hj=>(f1 j hj).imp id (Nat.le_trans g),fun j hj=>(f2 j hj).imp id (Nat.le_trans g2)⟩
theorem jX (w w':World) (lo:Nat) (v1 v2:Value):tN w w' lo v1 v2 nothing (.returned (.tuple #[.agg (af Ch.zero (.slice none 0 0) (.slice none 0 0)),.agg (aa Ha.zero),.bool false])):=⟨_,_,rfl,World.ownsRow_nil _ _ _ _,World.ownsRow_nil _ _ _ _,xy _ _ _ _,xy _ _ _ _⟩
theorem gH (w:World) (lo:Nat) (v1 v2:Value):Calls Tryz.prog 197 #[] w fun r w'=>tN w w' lo v1 v2 nothing r∧Below w.heap.size w w':=by
 go_enter Tryz.func197,Tryz.ntmps197
 go_wp2
 refine rE Tryz.results197 rfl (az Ch.zero (.slice none 0 0) (.slice none 0 0) (by simp [go_sem])) rfl (aj Ha.zero (by simp [go_sem])) ⟨jX _ _ _ _ _,by exact zB⟩
end
section
open Go.RowKit
def ry (w':World) (lo:Nat) (v1 v2 v3 v4:Value) (x:Wo):Prop:=ag w' lo v1 x.ch.cells∧ai w' lo v2 x.ch.words∧gG w' lo v3 x.hands∧jb w' lo v4 x.deals
def iM (w w':World) (x:Wo) (t:Value) (r:Ending):Prop:=(∃ v1 v2 v3 v4,r=.returned (.tuple #[.agg #[.int .i64 x.ch.cap,.int .i64 x.ch.sent,.int .i64 x.ch.got,.int .i64 x.ch.fin,v1,v2,v3,v4,.int .i64 x.now],t])∧ry w' w.heap.size v1 v2 v3 v4 x)∧Below w.heap.size w w'
theorem mK (w':World) (lo:Nat):ry w' lo (.slice none 0 0) (.slice none 0 0) (.slice none 0 0) (.slice none 0 0) Wo.zero:=⟨World.ownsRow_nil _ _ _ _,World.ownsRow_nil _ _ _ _,World.ownsRow_nil _ _ _ _,World.ownsRow_nil _ _ _ _⟩
def tQ (x v:Value):Sem Unit:=Instr.storeAt 49 x v
theorem fe (x v:Value):Instr.storeAt 49 x v=tQ x v:=by unfold tQ;simp
theorem eB {w:World} {b:Nat} (x:Ha) (h:okO 14 (hp w b)=true):(tQ (.pointer (some ⟨b,0,none⟩)) (.agg (aa x))).run Tryz.prog w=.ok () (bY w b (aa x)):=aG x h
def iI (w:World) (b o:Nat) (x:Ha):World :=
 (((((((((((((w.setCell ⟨b,o+0,none⟩ (.int .i64 x.pos)).setCell ⟨b,o+1,none⟩ (.int .i64 x.code)).setCell ⟨b,o+2,none⟩ (.int .i64 x.elem)).setCell ⟨b,o+3,none⟩ (.int .i64 x.cell)).setCell ⟨b,o+4,none⟩ (.int .i64 x.seen)).setCell ⟨b,o+5,none⟩ (.int .i64 x.wait)).setCell ⟨b,o+6,none⟩ (.int .i64 x.fin)).setCell ⟨b,o+7,none⟩ (.int .i64 x.come)).setCell ⟨b,o+8,none⟩ (.int .i64 x.grow)).setCell ⟨b,o+9,none⟩ (.int .i64 x.mine)).setCell ⟨b,o+10,none⟩ (.int .i64 x.nxt)).setCell ⟨b,o+11,none⟩ (.int .i64 x.beg)).setCell ⟨b,o+12,none⟩ (.int .i64 x.reply)).setCell ⟨b,o+13,none⟩ (.int .i64 x.out)
theorem Fv {w:World} {b o:Nat} (x:Ha) (h:∀ j,j<14→∃ v,w.cell? ⟨b,o+j,none⟩=some v) (hf:∀ j,w.frozen? ⟨b,j,none⟩=false):(tQ (.pointer (some ⟨b,o,none⟩)) (.agg (aa x))).run Tryz.prog w=.ok () (iI w b o x):=by
 obtain ⟨u0,h0⟩:=h 0 tO
 obtain ⟨u1,h1⟩:=h 1 tO
 obtain ⟨u2,h2⟩:=h 2 tO
 obtain ⟨u3,h3⟩:=h 3 tO
 obtain ⟨u4,h4⟩:=h 4 tO
 obtain ⟨u5,h5⟩:=h 5 tO
 obtain ⟨u6,h6⟩:=h 6 tO
 obtain ⟨u7,h7⟩:=h 7 tO
 obtain ⟨u8,h8⟩:=h 8 tO
 obtain ⟨u9,h9⟩:=h 9 tO
 obtain ⟨Xh,h10⟩:=h 10 tO
 obtain ⟨Xi,h11⟩:=h 11 tO
 obtain ⟨Xj,h12⟩:=h 12 tO
 obtain ⟨Xk,OY⟩:=h 13 tO
 simp only [Nat.add_zero] at h0
 simp [tQ,aa,go_sem,iI, *]
theorem gm (w:World) (b o:Nat) (x:Ha):w.grownBy (iI w b o x) (some b):=by
 unfold iI
 repeat (first|with_reducible exact gR _ _|with_reducible refine gS ?_ (.inl rfl))
theorem jM (w:World) (b o:Nat) (x:Ha):(iI w b o x).heap.size=w.heap.size:=by simp [iI]
theorem Gt:∀ (hs:List Ha) (i:Nat) (x:Ha),i<hs.length →
  jU (hs.set i x)=(((((((((((((((jU hs).set (i*14+0) (.int .i64 x.pos)).set (i*14+1) (.int .i64 x.code)).set (i*14+2) (.int .i64 x.elem)).set (i*14+3) (.int .i64 x.cell)).set (i*14+4) (.int .i64 x.seen)).set (i*14+5) (.int .i64 x.wait)).set (i*14+6) (.int .i64 x.fin)).set (i*14+7) (.int .i64 x.come)).set (i*14+8) (.int .i64 x.grow)).set (i*14+9) (.int .i64 x.mine)).set (i*14+10) (.int .i64 x.nxt)).set (i*14+11) (.int .i64 x.beg)).set (i*14+12) (.int .i64 x.reply)).set (i*14+13) (.int .i64 x.out)):=by
 intro hs i x hi
 apply List.ext_getElem?
 intro n
 by_cases hn:n<hs.length*14
 ·have e:n=n / 14*14+n % 14:=by omega
  have h1:=jy (hs.set i x) (n / 14) (n % 14) (by simp;omega) tO
  have h2:=jy hs (n / 14) (n % 14) tO tO
  rw [← e] at h1 h2
  rw [h1]
  by_cases hq:n / 14=i
  ·subst hq
   have hr:n % 14=0∨n % 14=1∨n % 14=2∨n % 14=3∨n % 14=4∨n % 14=5∨n % 14=6∨n % 14=7∨n % 14=8∨n % 14=9∨n % 14=10∨n % 14=11∨n % 14=12∨n % 14=13:=by omega
   have hl:=jw hs
   rcases hr with hr|hr|hr|hr|hr|hr|hr|hr|hr|hr|hr|hr|hr|hr
   all_goals (rw [hr] at e ⊢;simp only [List.getElem?_set,List.length_set];simp (disch:=omega) only [if_neg,if_pos,fI,List.getD_eq_getElem?_getD,List.getElem?_set,aa,Array.getD];simp [hi,hl,aa,fI,Array.getD])
  ·simp only [List.getElem?_set,List.length_set]
   simp (disch:=omega) only [if_neg]
   rw [h2]
   simp [fI,List.getD,List.getElem?_set,Ne.symm hq]
 ·rw [List.getElem?_eq_none (by rw [jw];simp;omega),List.getElem?_eq_none (by simp [jw];omega)]
theorem gG.open1 {w:World} {lo:Nat} {v:Value} {hs:List Ha} (h:gG w lo v hs) {i:Nat} (hi:i<hs.length) :
  ∃ g cap,v=.slice (some ⟨g,0,none⟩) hs.length cap∧lo≤g∧g<w.heap.size∧(∀ j,j<14→w.cell? ⟨g,i*14+j,none⟩=some ((aa (hs.getD i Ha.zero)).getD j (.int .i64 0)))∧∀ o,w.frozen? ⟨g,o,none⟩=false:=by
 have h2:=h
 rcases h.2 with ⟨_,h0⟩|⟨g,cap,cur,rfl,hl,hg,_⟩
 ·omega
 ·refine ⟨g,cap,rfl,hl,(Array.getElem?_eq_some_iff.1 hg).1,fun j hj=>?_,fun o=>by simp [World.frozen?,hg]⟩
  have:=h2.cells (g:=g) rfl (i*14+j) _ (jy hs i j hi hj)
  rw [show (aa (hs.getD i Ha.zero)).getD j (.int .i64 0)=fI hs i j from rfl,← this]
  congr 1
  by_cases e:i*14+j=0 <;> simp [Addr.add,e] <;> omega
theorem gG.set {w:World} {lo g cap:Nat} {hs:List Ha} (h:gG w lo (.slice (some ⟨g,0,none⟩) hs.length cap) hs) {i:Nat} (hi:i<hs.length) (x:Ha) :
  gG (iI w g (i*14) x) lo (.slice (some ⟨g,0,none⟩) hs.length cap) (hs.set i x):=by
 have hl:=jw hs
 unfold gG iI
 rw [Gt hs i x hi,List.length_set]
 iterate 14 (refine iU ?_ _ (by (try simp only [List.length_set]);omega) _)
 exact h
end
section
open Go.RowKit
attribute [local simp] aC
attribute [local go_sem ↓] aB aL aM fe au
attribute [local go_sem] eB
attribute [local go_sem ↓] J5
theorem Fw (n:Nat) (h:n≤1048576) (W:World):(Instr.makeSlice 32 (.int .i64 n) (.int .i64 n)).run Tryz.prog W=.ok (.slice (some ⟨W.heap.size,0,none⟩) n n) (W.alloc (.cells (madeCells (aa Ha.zero) (n*14)) 49)):=by
 obtain ⟨i,hi,hz,hs,hb⟩:=info_parts Gg
 have:=run_make (P:=Tryz.prog) W 32 49 i _ Tryz.underlying32 hi hz .i64 .i64 n n tO tO (by rw [hb];omega) tO
 rw [this,hs]
 simp [Value.cells]
end
end Go.Proofs.YtffhjmepfojhnaaGreat
