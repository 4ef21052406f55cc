/-
  Asking, of the reference model; lists lie in memory and hold at most 2 ^ 40 elements.
-/
import Derived.Test.YtffhjmepfojhnaaGreatR08
import Derived.Test.YtffhjmepfojhnaaGreatR10
import Derived.Test.YtffhjmepfojhnaaGreatR01
import Derived.Test.YtffhjmepfojhnaaGreatR04
import Derived.Test.YtffhjmepfojhnaaGreatR14
import Derived.Deep.RegionHeld3
import Derived.Deep.DeepCutAuto
set_option maxRecDepth 100000
set_option maxHeartbeats 4000000
set_option linter.unusedSimpArgs false
set_option linter.unusedVariables false
namespace Go.Proofs.YtffhjmepfojhnaaGreat
section
open Go.RowKit
attribute [local simp] aC
attribute [local go_sem ↓] aB aL aM fe au
attribute [local go_sem] eB
end
section
open Go.RowKit
attribute [local simp] aC
attribute [local go_sem ↓] aB aL aM fe au
attribute [local go_sem] eB
section
variable {w:World} {b b' o i:Nat} {x:Ha}
theorem qK (hi:b'<w.heap.size) (h:b'≠b):(iI w b o x).cell? ⟨b',i,none⟩=w.cell? ⟨b',i,none⟩:=NS (gm w b o x) hi (by simpa using h) i
theorem mR (hi:b'<w.heap.size) (h:b'≠b):(iI w b o x).frozen? ⟨b',i,none⟩=w.frozen? ⟨b',i,none⟩:=NT (gm w b o x) hi (by simpa using h) i
theorem mU {v v':Value} {g:Nat} (h:v.ownBlock=none∨v.ownBlock≠v'.ownBlock) (e:v'.ownBlock=some g):v.ownBlock≠some g:=by
 rcases h with h|h
 ·rw [h];simp
 ·rw [← e];exact h
end
attribute [local go_sem] qK mR jM
end
section
open Go.RowKit
theorem BK {w:World} {lo:Nat} {t:TypeId} {n k p:Nat} {a:Option Addr} {xs:List Value} {f:Nat→Nat→Value} (h:w.ownsRow lo t k (.slice a n p) n xs) (hf:∀ i j,i<n→j<k→xs[i*k+j]?=some (f i j)):Seg w w.heap.size a n k f∧(a=none→p=0)∧n≤maxLen:=by
 obtain ⟨a',p',e,s⟩:=qw h hf
 simp at e
 obtain ⟨rfl,rfl⟩:=e
 refine ⟨s,fun e=>?_,?_⟩
 ·rcases h.2 with ⟨e2,_⟩|⟨g,cap,cur,e2,_⟩
  ·simp at e2;exact e2.2.2
  ·simp at e2;rw [e] at e2;cases e2.1
 ·rcases h.2 with ⟨_,h1⟩|⟨g,cap,cur,_,_,_,h1,h2,_⟩
  ·omega
  ·exact Nat.le_trans h1 h2
theorem sK {w:World} {B:Nat} {x:Wo} {v1 v2 v3 v4:Value} (z:hp w B=some (.cells (gK x v1 v2 v3 v4) 35)):(Ac (.pointer (some ⟨B,0,none⟩))).run Tryz.prog w=.ok (.agg (af x.ch v1 v2)) w:=by
 have h0:w.cell? ⟨B,0,none⟩=some (.int .i64 x.ch.cap):=(bO z).1 0
 have h1:w.cell? ⟨B,1,none⟩=some (.int .i64 x.ch.sent):=(bO z).1 1
 have h2:w.cell? ⟨B,2,none⟩=some (.int .i64 x.ch.got):=(bO z).1 2
 have h3:w.cell? ⟨B,3,none⟩=some (.int .i64 x.ch.fin):=(bO z).1 3
 have h4:w.cell? ⟨B,4,none⟩=some v1:=(bO z).1 4
 have h5:w.cell? ⟨B,5,none⟩=some v2:=(bO z).1 5
 unfold Ac
 simp [af,go_sem, *]
def Ph (w:World) (B:Nat) (c:Ch) (v1 v2:Value):World:=(((((w.setCell ⟨B,0,none⟩ (.int .i64 c.cap)).setCell ⟨B,1,none⟩ (.int .i64 c.sent)).setCell ⟨B,2,none⟩ (.int .i64 c.got)).setCell ⟨B,3,none⟩ (.int .i64 c.fin)).setCell ⟨B,4,none⟩ v1).setCell ⟨B,5,none⟩ v2
theorem nG (w:World) (B:Nat) (c:Ch) (v1 v2:Value):w.grownBy (Ph w B c v1 v2) (some B):=by
 unfold Ph
 repeat (first|with_reducible exact gR _ _|with_reducible refine gS ?_ (.inl rfl))
theorem Oh {w:World} {B:Nat} {x:Wo} {u1 u2 v3 v4:Value} {T:TypeId} (z:hp w B=some (.cells (gK x u1 u2 v3 v4) T)) (c:Ch) (v1 v2:Value):hp (Ph w B c v1 v2) B=some (.cells (gK { x with ch:=c } v1 v2 v3 v4) T):=by
 unfold Ph
 simp only [fF,z,Option.map_some,eO]
 rfl
theorem MW {w:World} {B:Nat} {x:Wo} {v1 v2 v3 v4:Value} (z:hp w B=some (.cells (gK x v1 v2 v3 v4) 35)) (c:Ch) (a b:Option Addr) (n p m q:Nat):(storeCells ⟨B,0,none⟩ (af c (.slice a n p) (.slice b m q)).toList).run Tryz.prog w=.ok () (Ph w B c (.slice a n p) (.slice b m q)):=by
 have h:=(bO z).1
 have f:=(bO z).2.1
 simp only [gK] at h
 simp [af,storeCells,Addr.add,go_sem,h,f,Ph]
attribute [local simp] aC
attribute [local go_sem ↓] aB aU aL bB aM bC aG aN au aF
attribute [local go_sem ↓] fe
attribute [local go_sem] eB
theorem gG.stAt {w:World} {lo g cap:Nat} {hs:List Ha} (h:gG w lo (.slice (some ⟨g,0,none⟩) hs.length cap) hs) {i:Nat} (hi:i<hs.length) (y:Ha):(tQ (.pointer (some ⟨g,i*14,none⟩)) (.agg (aa y))).run Tryz.prog w=.ok () (iI w g (i*14) y):=by
 obtain ⟨g',cap',e,_,_,hc,hf⟩:=h.open1 hi
 simp at e
 obtain ⟨rfl,rfl⟩:=e
 exact Fv y (fun j hj=>⟨_,hc j hj⟩) hf
theorem gG.ldAt {w:World} {lo g cap:Nat} {hs:List Ha} (h:gG w lo (.slice (some ⟨g,0,none⟩) hs.length cap) hs) {i:Nat} (hi:i<hs.length):(nP (.pointer (some ⟨g,i*14,none⟩))).run Tryz.prog w=.ok (.agg (aa (hs.getD i Ha.zero))) w:=by
 obtain ⟨g',cap',e,_,_,hc,hf⟩:=h.open1 hi
 simp at e
 obtain ⟨rfl,rfl⟩:=e
 exact nu _ hc
theorem ints_at (l:List Int):∀ i j,i<l.length→j<1→(ints l)[i*1+j]?=some (gX l i j):=fun i j hi hj=>by
 have:j=0:=by omega
 subst this
 simp [ints,gX,List.getD,hi]
end
section
open Go.RowKit
attribute [local simp] aC
attribute [local go_sem ↓] aB aU aL bB aM bC aG aN au aF
theorem BL (c:Ch) (h:Ha) (hp:h.pos≤0∨26≤h.pos):iC c h=nothing:=by
 unfold iC
 rw [show dm h.pos 1 8=false by simp [dm];omega,show dm h.pos 9 15=false by simp [dm];omega,show dm h.pos 16 22=false by simp [dm];omega]
 simp only [Bool.false_eq_true,if_false]
 have e2:dm h.pos 23 25=false:=by simp [dm];omega
 simp [bU,bf,e2]
theorem GY (w:World):Calls Tryz.prog 233 #[] w fun r w'=>r=.returned (.tuple #[.agg (af Ch.zero (.slice none 0 0) (.slice none 0 0)),.agg (aa Ha.zero),.bool false])∧Below w.heap.size w w':=by
 go_enter Tryz.func233,Tryz.ntmps233
 go_wp2
 exact bodyPost_ret (iV Tryz.results233 rfl (az Ch.zero (.slice none 0 0) (.slice none 0 0) (by simp [go_sem])) rfl (aj Ha.zero (by simp [go_sem]))) rfl ⟨rfl,by exact zB⟩
theorem wo (x:St) (c:Ch) (h:Ha) (a b:Option Addr) (p q:Nat) (w:World) (h1:eY w w.heap.size a c.cells) (z1:a=none→p=0) (h2:eQ w w.heap.size b c.words) (z2:b=none→q=0)
  (hs:∀ (a b:Option Addr) (p q:Nat) (w:World),eY w w.heap.size a c.cells→(a=none→p=0)→eQ w w.heap.size b c.words→(b=none→q=0)→Calls Tryz.prog 235 #[.agg (af c (.slice a c.cells.length p) (.slice b c.words.length q)),.agg (aa h)] w fun r w'=>bV w w' x r) :
  Calls Tryz.prog 234 #[.agg #[],.agg (af c (.slice a c.cells.length p) (.slice b c.words.length q)),.agg (aa h)] w fun r w'=>bV w w' x r:=by
 have H1:=Lib.hid h1
 have H2:=Lib.hid h2
 have Z1:=Lib.hid z1
 have Z2:=Lib.hid z2
 have HS:=Lib.hid hs
 clear h1 h2 z1 z2 hs
 have d1:∀ j,(Value.slice none 0 0).ownBlock=some j→w.heap.size+1+1+1+1+1≤j:=fun j hj=>by cases hj
 have d2:=d1
 go_enter Tryz.func234,Tryz.ntmps234
 go_wp2_with fail;refine ax w zB fun bb=>?_;refine (HS.out _ _ _ _ _ (aT H1 bb) Z1.out (aT H2 bb) Z2.out).mono ?_;rintro _ w9 ⟨⟨y1,y2,rfl,aV,aX,dL,dI⟩,eG⟩;obtain ⟨sI,jc,zz⟩:=wU bb eG (b:=w.heap.size);(try simp at jc);(try simp [go_sem] at zz);replace bX:=jL zz;clear zz eG bb
 replace aV:ag w9 w.heap.size y1 x.1.cells:=av aV (by simp;omega)
 replace aX:ai w9 w.heap.size y2 x.1.words:=av aX (by simp;omega)
 obtain ⟨⟨aI,aJ⟩,dP,dQ⟩:=lL (w:=w) (w.heap.size+1+1+1+1+1) dL dI d1 d2;obtain ⟨ya,yp,rfl,_⟩:=aV.seg;obtain ⟨yb,yq,rfl,_⟩:=aX.seg
 go_wp2
 refine rE Tryz.results234 rfl (az x.1 (.slice ya x.1.cells.length yp) (.slice yb x.1.words.length yq) tY) rfl (aj x.2.1 tY) ⟨⟨_,_,rfl,?_,?_,dP,dQ⟩,by exact zB⟩
 ·exact zP aV aV aI
 ·exact zP aX aX aJ
theorem si (c:Ch) (h:Ha) (v1 v2:Value) (w:World):Calls Tryz.prog 232 #[.agg #[],.agg (af c v1 v2),.agg (aa h)] w fun r w'=>bV w w' nothing r:=by
 go_enter Tryz.func232,Tryz.ntmps232
 go_wp2_with fail
 refine ax w zB fun bb=>?_
 refine (GY _).mono ?_
 rintro _ w9 ⟨rfl,eG⟩
 have JG:Below w.heap.size w w9:=bT bb eG
 have jc:=eG.size;(try simp at jc);have zz:=Tu eG (b:=w.heap.size);(try simp [go_sem] at zz);replace bX:=jL zz;clear zz eG
 clear bb
 go_wp2
 exact bodyPost_ret (iV Tryz.results232 rfl (az Ch.zero (.slice none 0 0) (.slice none 0 0) tY) rfl (aj Ha.zero tY)) rfl ⟨jX _ _ _ _ _,by exact zB⟩
theorem MX (n : Nat) (w : World) : (method (n + 1) 201 (.agg #[]) "loop.example/g00794/impl.step").run Tryz.prog w = .ok (234, .agg #[]) w := by kernel_rfl
theorem NJ (n : Nat) (w : World) : (method (n + 1) 200 (.agg #[]) "loop.example/g00794/impl.step").run Tryz.prog w = .ok (232, .agg #[]) w := by kernel_rfl
theorem lC (x:St) (c:Ch) (h:Ha) (a b:Option Addr) (p q:Nat) (w:World) (h1:eY w w.heap.size a c.cells) (z1:a=none→p=0) (h2:eQ w w.heap.size b c.words) (z2:b=none→q=0) (T:TypeId) (F:FuncId) (tb:∀ W:World,Calls Tryz.prog 157 #[.int .i64 h.pos] W fun r w'=>r=.returned (.iface T (.agg #[]))∧w'=W)
  (me : ∀ (n : Nat) (w : World), (method (n + 1) T (.agg #[]) "loop.example/g00794/impl.step").run Tryz.prog w = .ok (F, .agg #[]) w) (eg : ∀ (args : Array Value) (w : World), (callFunc F args).run Tryz.prog w = .ok (.enter F args) w)
  (hs:∀ (a b:Option Addr) (p q:Nat) (w:World),eY w w.heap.size a c.cells→(a=none→p=0)→eQ w w.heap.size b c.words→(b=none→q=0)→Calls Tryz.prog F #[.agg #[],.agg (af c (.slice a c.cells.length p) (.slice b c.words.length q)),.agg (aa h)] w fun r w'=>bV w w' x r) :
  Calls Tryz.prog 105 #[.agg (af c (.slice a c.cells.length p) (.slice b c.words.length q)),.agg (aa h)] w fun r w'=>bV w w' x r:=by
 have H1:=Lib.hid h1
 have H2:=Lib.hid h2
 have Z1:=Lib.hid z1
 have Z2:=Lib.hid z2
 have HS:=Lib.hid hs
 clear h1 h2 z1 z2 hs
 go_enter Tryz.func105,Tryz.ntmps105
 go_upto_region 1 with fail
 refine bI [[],[0],[0,1],[],[],[0,1,2,3,4],[0,1,2,3,4,5],[0,1,2,3,4,5],[0,1,2,3,4,5],[0,1,2,3,4,5,6],[0,1,2,3,4,5,7],[0,1,2,3,4,5,8]] [7,8,9,10,11,12,13,14,15,6] (fun l s wx=>(Below w.heap.size w wx)∧(w.heap.size+1+1+1+1≤wx.heap.size)∧(hp wx w.heap.size=some (.cells (af c (.slice a c.cells.length p) (.slice b c.words.length q)) 31))∧(hp wx (w.heap.size+1)=some (.cells (aa h) 49))∧(hp wx (w.heap.size+1+1)=some (.cells (cond (l 9) (af x.1 (s 1003) (s 1004)) (af Ch.zero (.slice none 0 0) (.slice none 0 0))) 31))∧(hp wx (w.heap.size+1+1+1)=some (.cells (cond (l 10) (aa x.2.1) (aa Ha.zero)) 49))∧(l 0=true→s 7=.pointer (some ⟨w.heap.size+1,0,none⟩))∧(l 1=true→s 8=.int .i64 h.pos)∧(l 2=true→s 9=.iface T (.agg #[]))∧(l 3=true→s 10=.agg (af c (.slice a c.cells.length p) (.slice b c.words.length q)))∧(l 4=true→s 11=.agg (aa h))∧(l 5=true→s 12=.tuple #[.agg (af x.1 (s 1003) (s 1004)),.agg (aa x.2.1),.bool x.2.2]∧ag wx w.heap.size (s 1003) x.1.cells∧ai wx w.heap.size (s 1004) x.1.words)∧(l 6=true→s 13=.agg (af x.1 (s 1003) (s 1004)))∧(l 7=true→s 14=.agg (aa x.2.1))∧(l 8=true→s 15=.bool x.2.2)∧(l 11=true→s 6=.bool x.2.2)) (by kernel_rfl) (by kernel_rfl) (by kernel_rfl) (fun s=>by (simp only [fill,fC,List.setIfInBounds_toArray,List.set_cons_zero,List.set_cons_succ];rfl)) (fun s=>⟨by exact zB,by simp,by simp [go_sem, *],by simp [go_sem, *],by simp [go_sem, *],by simp [go_sem, *],nB,nB,nB,nB,nB,nB,nB,nB,nB,nB⟩) ?_ ?_
 refine ⟨?_,?_,?_,?_,?_,?_,?_,?_,?_,?_,?_,?_,trivial⟩;iterate 12 (intro l s wx hl hd hn hf K hK;rotate_left)
 ·intro l s wx hall hf
  have hB:=hf.1
  have z1:=hf.2.2.2.2.1
  have z2:=(jC hf).2.1
  rw [hall 9 rfl] at z1
  rw [hall 10 rfl] at z2
  dsimp only [cond] at z1 z2
  obtain ⟨_,X1,X2⟩:=((jD hf).2.2.2.1 (hall 5 rfl))
  have ec:=((jC (jD hf)).2.2.2 (hall 11 rfl))
  simp only [ec]
  clear ec hf hall
  go_wp2
  exact bodyPost_ret (iV Tryz.results105 rfl (az x.1 _ _ z1) rfl (aj x.2.1 z2)) rfl ⟨⟨_,_,rfl,X1,X2,fun j e=>.inr (X1.lt j e).1,fun j e=>.inr (X2.lt j e).1⟩,hB⟩
 ·go_simp
  refine hK.out (upd s 7 (.pointer (some ⟨w.heap.size+1,0,none⟩))) _ _ (by simp [ae] <;> rfl) (kC (kB (kX (fun _=>rfl) id)) hf.out)
 ·have e0:=((jC hf.out).2.2.1 (hd 0 rfl))
  have zz:=(bO hf.out.2.2.2.1).1 0
  simp [aa] at zz
  go_simp
  refine hK.out (upd s 8 (.int .i64 h.pos)) _ _ (by simp [ae,e0] <;> rfl) (kC (kB (kA (kX (fun _=>rfl) id))) hf.out)
 ·have e1:=((jC hf.out).2.2.2.1 (hd 1 rfl))
  go_simp
  go_at_call 157
  refine (tb _).mono ?_
  rintro _ _ ⟨rfl,rfl⟩
  refine hK.out (upd s 9 (.iface T (.agg #[]))) _ _ (by simp [ae,e1] <;> rfl) (kD (kX (fun _=>rfl) id) hf.out)
 ·have z:=hf.out.2.2.1
  go_simp
  refine hK.out (upd s 10 (.agg (af c (.slice a c.cells.length p) (.slice b c.words.length q)))) _ _ (by simp [ae] <;> rfl) (kD (kA (kX (fun _=>rfl) id)) hf.out)
 ·have z:=hf.out.2.2.2.1
  go_simp
  refine hK.out (upd s 11 (.agg (aa h))) _ _ (by simp [ae] <;> rfl) (kD (kB (kX (fun _=>rfl) id)) hf.out)
 ·have e2:=((jD hf.out).1 (hd 2 rfl))
  have e3:=((jD hf.out).2.1 (hd 3 rfl))
  have e4:=((jD hf.out).2.2.1 (hd 4 rfl))
  have q4:=me
  have q5:=eg
  go_simp
  refine (HS.out _ _ _ _ _ ((H1.out.below hf.out.1).more (Below.size hf.out.1)) Z1.out ((H2.out.below hf.out.1).more (Below.size hf.out.1)) Z2.out).mono ?_
  rintro _ wy ⟨⟨y1,y2,rfl,X1,X2,_,_⟩,hE⟩
  refine hK.out (upd (upd (upd s 1003 (y1)) 1004 (y2)) 12 (.tuple #[.agg (af x.1 y1 y2),.agg (aa x.2.1),.bool x.2.2])) _ _ (by simp [ae,e2,e3,e4] <;> rfl) (kX (bT hf.out.1 hE) (kX (Nat.le_trans hf.out.2.1 (Below.size hE)) (kX (dS hf.out.2.2.1 hE) (kX (dS hf.out.2.2.2.1 hE) (kX (by (have ee:l 9=false:=hn 9 rfl);(have F:=hf.out.2.2.2.2.1);rw [ee] at F;rw [show upd l 5 true 9=false from ee];exact dS F hE) (kX (by (have ee:l 10=false:=hn 10 rfl);(have F:=(jC hf.out).2.1);rw [ee] at F;rw [show upd l 5 true 10=false from ee];exact dS F hE) (kC (kA (kX (fun _=>⟨rfl,av X1 (Below.size hf.out.1),av X2 (Below.size hf.out.1)⟩) (kX (nU (hn 6 rfl)) (kX (nU (hn 7 rfl)) (kX (nU (hn 8 rfl)) (fun _=>nU (hn 11 rfl))))))))))))) hf.out)
 ·have e5:=((jD hf.out).2.2.2.1 (hd 5 rfl)).1
  go_simp
  refine hK.out (upd s 13 (.agg (af x.1 (s 1003) (s 1004)))) _ _ (by simp [ae,e5] <;> rfl) (kD (kC (kX (fun _=>rfl) id)) hf.out)
 ·have e5:=((jD hf.out).2.2.2.1 (hd 5 rfl)).1
  go_simp
  refine hK.out (upd s 14 (.agg (aa x.2.1))) _ _ (by simp [ae,e5] <;> rfl) (kD (kC (kA (kX (fun _=>rfl) id))) hf.out)
 ·have e5:=((jD hf.out).2.2.2.1 (hd 5 rfl)).1
  go_simp
  refine hK.out (upd s 15 (.bool x.2.2)) _ _ (by simp [ae,e5] <;> rfl) (kD (kC (kB (kX (fun _=>rfl) id))) hf.out)
 ·have e6:=((jC (jD hf.out)).1 (hd 6 rfl))
  have e5:=((jD hf.out).2.2.2.1 (hd 5 rfl))
  have X1:=e5.2.1
  have X2:=e5.2.2
  clear e5
  have zr:=hf.out.2.2.2.2.1
  rw [hl] at zr
  dsimp only [cond] at zr
  obtain ⟨xa,xp,ea,_⟩:=X1.seg
  obtain ⟨xb,xq,mq,_⟩:=X2.seg
  rw [ea,mq] at e6
  have zn:hp (bY wx (w.heap.size+1+1) (af x.1 (.slice xa x.1.cells.length xp) (.slice xb x.1.words.length xq))) (w.heap.size+1+1)=some (.cells (af x.1 (s 1003) (s 1004)) 31):=by rw [ea,mq];exact fH zr
  go_simp
  refine hK.out (s) _ _ (by simp [ae,e6,ea,mq] <;> rfl) (kX (Fb hf.out.1 tO) (kX (Nat.le_trans hf.out.2.1 (Nat.le_of_eq aC.symm)) (kX ((aD tO).trans hf.out.2.2.1) (kX ((aD tO).trans hf.out.2.2.2.1) (kX (zn) (kX ((aD tO).trans (jC hf.out).2.1) (kC (kA (kX (fun h=>(let ⟨e,X1,X2⟩:=(jD hf.out).2.2.2.1 h;⟨e,cO X1 zr (by decide),cO X2 zr (by decide)⟩)) id)))))))) hf.out)
 ·have e7:=((jC (jD hf.out)).2.1 (hd 7 rfl))
  have e5:=((jD hf.out).2.2.2.1 (hd 5 rfl))
  have X1:=e5.2.1
  have X2:=e5.2.2
  clear e5
  have zr:=(jC hf.out).2.1
  rw [hl] at zr
  dsimp only [cond] at zr
  have zn:hp (bY wx (w.heap.size+1+1+1) (aa x.2.1)) (w.heap.size+1+1+1)=some (.cells (aa x.2.1) 49):=by exact fH zr
  go_simp
  refine hK.out (s) _ _ (by simp [ae,e7] <;> rfl) (kX (Fb hf.out.1 tO) (kX (Nat.le_trans hf.out.2.1 (Nat.le_of_eq aC.symm)) (kX ((aD tO).trans hf.out.2.2.1) (kX ((aD tO).trans hf.out.2.2.2.1) (kX ((aD tO).trans hf.out.2.2.2.2.1) (kX (zn) (kC (kA (kX (fun h=>(let ⟨e,X1,X2⟩:=(jD hf.out).2.2.2.1 h;⟨e,cO X1 zr (by decide),cO X2 zr (by decide)⟩)) id)))))))) hf.out)
 ·have e8:=((jC (jD hf.out)).2.2.1 (hd 8 rfl))
  go_simp
  refine hK.out (upd s 6 (.bool x.2.2)) _ _ (by simp [ae,e8] <;> rfl) (kD (kC (kB (kA (fun _=>fun _=>rfl)))) hf.out)
theorem Eh (x:St) (c:Ch) (h:Ha) (a b:Option Addr) (p q:Nat) (w:World) (h1:eY w w.heap.size a c.cells) (z1:a=none→p=0) (h2:eQ w w.heap.size b c.words) (z2:b=none→q=0)
  (hs:∀ (a b:Option Addr) (p q:Nat) (w:World),eY w w.heap.size a c.cells→(a=none→p=0)→eQ w w.heap.size b c.words→(b=none→q=0)→Calls Tryz.prog 235 #[.agg (af c (.slice a c.cells.length p) (.slice b c.words.length q)),.agg (aa h)] w fun r w'=>bV w w' x r) (Kr:1≤h.pos∧h.pos≤8) :
  Calls Tryz.prog 105 #[.agg (af c (.slice a c.cells.length p) (.slice b c.words.length q)),.agg (aa h)] w fun r w'=>bV w w' x r :=
 lC x c h a b p q w h1 z1 h2 z2 _ _ (fun W=>F5 h.pos W Kr) MX (fun args w=>by simp [go_sem]) (fun a b p q w h1 z1 h2 z2=>wo x c h a b p q w h1 z1 h2 z2 hs)
theorem Ei (x:St) (c:Ch) (h:Ha) (a b:Option Addr) (p q:Nat) (w:World) (h1:eY w w.heap.size a c.cells) (z1:a=none→p=0) (h2:eQ w w.heap.size b c.words) (z2:b=none→q=0)
  (hs:∀ (a b:Option Addr) (p q:Nat) (w:World),eY w w.heap.size a c.cells→(a=none→p=0)→eQ w w.heap.size b c.words→(b=none→q=0)→Calls Tryz.prog 259 #[.agg (af c (.slice a c.cells.length p) (.slice b c.words.length q)),.agg (aa h)] w fun r w'=>bV w w' x r) (Kr:9≤h.pos∧h.pos≤15) :
  Calls Tryz.prog 105 #[.agg (af c (.slice a c.cells.length p) (.slice b c.words.length q)),.agg (aa h)] w fun r w'=>bV w w' x r :=
 lC x c h a b p q w h1 z1 h2 z2 _ _ (fun W=>F6 h.pos W Kr) FC (fun args w=>by simp [go_sem]) (fun a b p q w h1 z1 h2 z2=>oQ x c h a b p q w h1 z1 h2 z2 hs)
theorem Ej (x:St) (c:Ch) (h:Ha) (a b:Option Addr) (p q:Nat) (w:World) (h1:eY w w.heap.size a c.cells) (z1:a=none→p=0) (h2:eQ w w.heap.size b c.words) (z2:b=none→q=0)
  (hs:∀ (a b:Option Addr) (p q:Nat) (w:World),eY w w.heap.size a c.cells→(a=none→p=0)→eQ w w.heap.size b c.words→(b=none→q=0)→Calls Tryz.prog 267 #[.agg (af c (.slice a c.cells.length p) (.slice b c.words.length q)),.agg (aa h)] w fun r w'=>bV w w' x r) (Kr:16≤h.pos∧h.pos≤22) :
  Calls Tryz.prog 105 #[.agg (af c (.slice a c.cells.length p) (.slice b c.words.length q)),.agg (aa h)] w fun r w'=>bV w w' x r :=
 lC x c h a b p q w h1 z1 h2 z2 _ _ (fun W=>F7 h.pos W Kr) FD (fun args w=>by simp [go_sem]) (fun a b p q w h1 z1 h2 z2=>oU x c h a b p q w h1 z1 h2 z2 hs)
theorem El (x:St) (c:Ch) (h:Ha) (a b:Option Addr) (p q:Nat) (w:World) (h1:eY w w.heap.size a c.cells) (z1:a=none→p=0) (h2:eQ w w.heap.size b c.words) (z2:b=none→q=0)
  (hs:∀ (a b:Option Addr) (p q:Nat) (w:World),eY w w.heap.size a c.cells→(a=none→p=0)→eQ w w.heap.size b c.words→(b=none→q=0)→Calls Tryz.prog 273 #[.agg (af c (.slice a c.cells.length p) (.slice b c.words.length q)),.agg (aa h)] w fun r w'=>bV w w' x r) (Kr:23≤h.pos∧h.pos≤25) :
  Calls Tryz.prog 105 #[.agg (af c (.slice a c.cells.length p) (.slice b c.words.length q)),.agg (aa h)] w fun r w'=>bV w w' x r :=
 lC x c h a b p q w h1 z1 h2 z2 _ _ (fun W=>F9 h.pos W Kr) FH (fun args w=>by simp [go_sem]) (fun a b p q w h1 z1 h2 z2=>oV x c h a b p q w h1 z1 h2 z2 hs)
theorem GZ (c:Ch) (h:Ha) (a b:Option Addr) (p q:Nat) (w:World) (h1:eY w w.heap.size a c.cells) (z1:a=none→p=0) (h2:eQ w w.heap.size b c.words) (z2:b=none→q=0) (Kr:h.pos≤0) :
  Calls Tryz.prog 105 #[.agg (af c (.slice a c.cells.length p) (.slice b c.words.length q)),.agg (aa h)] w fun r w'=>bV w w' nothing r :=
 lC nothing c h a b p q w h1 z1 h2 z2 _ _ (fun W=>Fz h.pos W Kr) NJ (fun args w=>by simp [go_sem]) (fun a b p q w _ _ _ _=>si c h _ _ w)
theorem Hd (c:Ch) (h:Ha) (a b:Option Addr) (p q:Nat) (w:World) (h1:eY w w.heap.size a c.cells) (z1:a=none→p=0) (h2:eQ w w.heap.size b c.words) (z2:b=none→q=0) (Kr:26≤h.pos) :
  Calls Tryz.prog 105 #[.agg (af c (.slice a c.cells.length p) (.slice b c.words.length q)),.agg (aa h)] w fun r w'=>bV w w' nothing r :=
 lC nothing c h a b p q w h1 z1 h2 z2 _ _ (fun W=>FB h.pos W Kr) NJ (fun args w=>by simp [go_sem]) (fun a b p q w _ _ _ _=>si c h _ _ w)
end
end Go.Proofs.YtffhjmepfojhnaaGreat
