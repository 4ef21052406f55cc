/-
  What the program asks of a world behind a pointer: who is at work, who is parked, how many are kept; lists of at most 1048576 elements that lie in memory.
-/
import Derived.Shelf.Abstract
import Derived.Test.YtffhjmepfojhnaaGreatP06
import Derived.Test.YtffhjmepfojhnaaGreatP14
import Derived.Test.YtffhjmepfojhnaaGreatP18
import Derived.Test.YtffhjmepfojhnaaGreatP22
import Derived.Test.YtffhjmepfojhnaaGreatP23
import Derived.Test.YtffhjmepfojhnaaGreatP20
import Derived.Test.YtffhjmepfojhnaaGreatP19
import Derived.Test.YtffhjmepfojhnaaGreatP21
import Derived.Deep.RegionHeld3
import Derived.Deep.DeepCutAuto
import Derived.Test.YtffhjmepfojhnaaGreatP16
set_option maxRecDepth 100000
set_option maxHeartbeats 8000000
set_option linter.unusedSimpArgs false
set_option linter.unusedVariables false
namespace Go.Proofs.YtffhjmepfojhnaaGreat
section
open Go.RowKit
attribute [local simp] aI
attribute [local go_sem ↓] aH aU aM bz aN bB aA aK ax aB
theorem gm.atQ {w W:World} {x:Wo} {a b d e:Option Addr} (h:gm w w.heap.size x a b d e) (hb:Below w.heap.size w W):gm W W.heap.size x a b d e:=⟨(h.1.below hb).more hb.size,(h.2.1.below hb).more hb.size,(h.2.2.1.below hb).more hb.size,(h.2.2.2.below hb).more hb.size⟩
structure LB (w:World) (B:Nat) (x:Wo) (a b d e:Option Addr) (p q r s:Nat):Prop where
 box:hp w B=some (.cells #[.int .i64 x.ch.cap,.int .i64 x.ch.sent,.int .i64 x.ch.got,.int .i64 x.ch.fin,.slice a x.ch.cells.length p,.slice b x.ch.words.length q,.slice d x.hands.length r,.slice e x.deals.length s,.int .i64 x.now] 35)
 seg:gm w w.heap.size x a b d e
 non:iB x a b d e p q r s
 len:iZ x
theorem LB.on {w W:World} {B:Nat} {x:Wo} {a b d e:Option Addr} {p q r s:Nat} (h:LB w B x a b d e p q r s) (hb:Below w.heap.size w W):LB W B x a b d e p q r s:=⟨(hb.block B (bO h.box).2.2).trans h.box,h.seg.atQ hb,h.non,h.len⟩
def iC (c:Ch) (h:Ha):Bool:=h.pos != 0 && !gI c h
def gy (k:Int) (h:Ha):Bool:=h.pos == 23 && h.code == k
theorem Mx {c:Ch} {h:Ha} (e:(h.pos != 0)=true):Value.bool (!gI c h)=.bool (iC c h):=by simp [iC,e]
theorem M0 {c:Ch} {h:Ha} (e:(h.pos != 0)=false):Value.bool false=.bool (iC c h):=by simp [iC,e]
theorem AU (w:World) (o1 o2:Obj):hp ((w.alloc o1).alloc o2) (w.heap.size+1)=some o2:=by
 have h:=heap_alloc_new (w.alloc o1) o2
 rwa [World.size_alloc] at h
theorem D5 {w:World} {lo:Nat} {v:Value} {l:List Int} (h:yj w lo v l):∃ a c,v=.slice a l.length c:=by
 rcases h with ⟨rfl,e⟩|⟨g,c,rfl,_⟩
 ·exact ⟨none,0,by rw [e]⟩
 ·exact ⟨_,_,rfl⟩
theorem uU (x:Wo) (a b d e:Option Addr) (p q r v0 B:Nat) (w:World) (H:LB w B x a b d e p q r v0) :
  Calls Tryz.prog 127 #[.agg #[.pointer (some ⟨B,0,none⟩)]] w fun r' w'=>r'=.returned (.bool (dU x))∧Below w.heap.size w w':=by
 have HH:=Lib.hid H
 obtain ⟨Pv,Pw,Ow⟩:=bO H.box
 clear H
 go_enter Tryz.func127,Tryz.ntmps127
 go_wp2_with (go_at_call 49;refine au w zB fun bb=>?_;refine (ma x a b d e p q r v0 _ (HH.out.on bb).seg HH.out.len).mono ?_;rintro _ w1 ⟨rfl,hb1⟩)
 go_ret
 exact ⟨rfl,bT bb hb1⟩
theorem mg (x:Wo) (a b d e:Option Addr) (p q r v0 B:Nat) (w:World) (H:LB w B x a b d e p q r v0) :
  Calls Tryz.prog 159 #[.agg #[.pointer (some ⟨B,0,none⟩)]] w fun r' w'=>r'=.returned (.int .i64 (keptIn x.ch).length)∧Below w.heap.size w w':=by
 have HH:=Lib.hid H
 obtain ⟨Pv,Pw,Ow⟩:=bO H.box
 have Pj:=xI (x:=x) ((Below.heap_alloc w (.cells #[.pointer (some ⟨B,0,none⟩)] 97) B Ow).trans H.box)
 clear H
 go_enter Tryz.func159,Tryz.ntmps159
 go_wp2_with (go_at_call 17;refine au w zB fun bb=>?_;refine (Dz x.ch a b p q _ (HH.out.on bb).seg.1 (HH.out.on bb).seg.2.1 (by have:=HH.out.len.1;unfold maxLen;omega) (by have:=HH.out.len.2.1;unfold maxLen;omega)).mono ?_;rintro _ w1 ⟨⟨v,rfl,hN⟩,hb1⟩;obtain ⟨a',c',rfl⟩:=D5 hN)
 go_ret
 exact ⟨rfl,bT bb hb1⟩
theorem D6 (h:Ha) (k:Int) (B:Nat) (w:World) (z:hp w B=some (.cells #[.int .i64 k] 2)) :
  Calls Tryz.prog 185 #[.agg (aa h),.pointer (some ⟨B,0,none⟩)] w fun r' w'=>r'=.returned (.bool (gy k h))∧Below w.heap.size w w':=by
 obtain ⟨Pv,Pw,Ow⟩:=bO z
 unfold gy
 cases hp0:(h.pos == 23) with
 | false =>
  go_enter Tryz.func185,Tryz.ntmps185
  go_wp2
  go_ret
  exact ⟨rfl,by exact zB⟩
 | true =>
  go_enter Tryz.func185,Tryz.ntmps185
  go_wp2
  go_ret
  exact ⟨rfl,by exact zB⟩
theorem Li {P:Ha→Bool} {hs:List Ha} {k:Nat} {h:Ha} (hk:k<hs.length) (hc:hs.getD k Ha.zero=h) (e:P h=true):hs.any P=true:=by
 rw [List.any_eq_true]
 refine ⟨hs[k],List.getElem_mem hk,?_⟩
 rw [← hc] at e
 simpa [List.getD,List.getElem?_eq_getElem hk] using e
theorem M5 {P:Ha→Bool} {hs:List Ha} {k:Nat} {h:Ha} (hk:k<hs.length) (hc:hs.getD k Ha.zero=h) (e:(hs.take k).any P=false) (e1:P h=false):(hs.take (k+1)).any P=false:=by
 rw [ji _ k Ha.zero hk,hc,List.any_append,e];simp [e1]
theorem D7 (g:Nat) (pre lb:Array Value) (P:Ha→Bool) (hs:List Ha) (d:Option Addr) (r:Nat) (w:World) (h3:Gh w w.heap.size d hs) (m:hs.length≤1099511627776)
  (eg:∀ args w,(callFunc g args).run Tryz.prog w=.ok (.enter g args) w)
  (HP:∀ (W:World) (h:Ha),Below w.heap.size w W→Calls Tryz.prog g (pre.push (.agg (aa h)) ++ lb) W fun r' w'=>r'=.returned (.bool (P h))∧Below W.heap.size W w') :
  Calls Tryz.prog 193 #[.slice d hs.length r,.func (.func g) pre lb] w fun r' w'=>(∃ i:Int,r'=.returned (.int .i64 i)∧decide (0≤i)=hs.any P)∧Below w.heap.size w w':=by
 replace HP:=Lib.hid HP
 go_enter Tryz.func193,Tryz.ntmps193
 go_wp2_with fail
 go_loopw [5,8] (fun _ i wr=>∃ k:Nat,k≤hs.length∧i=.int .i64 k∧Hid ((hs.take k).any P=false)∧Below w.heap.size w wr) (fun _ i _=>hs.length - (intOf i).toNat)
 case atStart=>exact ⟨0,Nat.zero_le _,rfl,rfl,by exact zB⟩
 case round =>
  obtain ⟨k,hk,rfl,hall,hB⟩:=hrel
  by_cases hlt:k<hs.length
  ·obtain ⟨b3,o3,rfl,hb3,hc3⟩:∃ b o,d=some ⟨b,o,none⟩∧b<w.heap.size∧(∀ i j,i<hs.length→j<14→w.cell? ⟨b,o+i*14+j,none⟩=some (gB hs i j)):=by
    rcases h3 with h0|h0
    ·omega
    ·exact h0
   have cc:=fun j hj=>hc3 k j hlt hj
   simp only [gB] at cc
   generalize hcg:hs.getD k Ha.zero=hx at cc
   have HC:=Lib.hid hcg
   clear hcg
   have hL:=lV (w:=wr) (b:=b3) (o:=o3+k*14) hx fun j hj=>by rw [← cc j hj];exact World.cell?_of_block (hB.block b3 hb3)
   clear cc hc3
   have hk0:(0:Int)≤(k:Int):=by omega
   have hk1:(k:Int)<(hs.length:Int):=by omega
   cases hG:P hx with
   | true =>
    go_wp2_with (go_at_fn g;refine (HP.out wr hx hB).mono ?_;rintro _ w6 ⟨rfl,hb6⟩;rw [hG])
    go_ret
    exact ⟨⟨(k:Int),rfl,by rw [Li hlt HC.out hG];exact decide_eq_true hk0⟩,bT hB hb6⟩
   | false =>
    go_wp2_with (go_at_fn g;refine (HP.out wr hx hB).mono ?_;rintro _ w6 ⟨rfl,hb6⟩;rw [hG])
    go_roundw
    case rel=>exact ⟨k+1,by omega,by go_num,M5 hlt HC.out hall.out hG,bT hB hb6⟩
    case measure=>simp [intOf];omega
  ·obtain rfl:k=hs.length:=by omega
   go_wp2
   go_ret
   exact ⟨⟨-1,rfl,by have:=hall.out;rw [List.take_length] at this;rw [this];rfl⟩,hB⟩
theorem nT (g:Nat) (pre lb:Array Value) (P:Ha→Bool) (hs:List Ha) (d:Option Addr) (r:Nat) (w:World) (h3:Gh w w.heap.size d hs) (m:hs.length≤1099511627776)
  (eg:∀ args w,(callFunc g args).run Tryz.prog w=.ok (.enter g args) w)
  (HP:∀ (W:World) (h:Ha),Below w.heap.size w W→Calls Tryz.prog g (pre.push (.agg (aa h)) ++ lb) W fun r' w'=>r'=.returned (.bool (P h))∧Below W.heap.size W w') :
  Calls Tryz.prog 174 #[.slice d hs.length r,.func (.func g) pre lb] w fun r' w'=>r'=.returned (.bool (hs.any P))∧Below w.heap.size w w':=by
 have HI:=Lib.hid (D7 g pre lb P hs d r w h3 m eg HP)
 clear h3 HP
 go_enter Tryz.func174,Tryz.ntmps174
 go_wp2_with (go_at_call 193;refine HI.out.mono ?_;rintro _ w1 ⟨⟨i,rfl,hi⟩,hb1⟩)
 go_ret
 exact ⟨by first|rfl|exact aZ hi,hb1⟩
theorem kY (x:Wo) (a b d e:Option Addr) (p q r v0 B:Nat) (w:World) (H:LB w B x a b d e p q r v0) (k:Int) :
  Calls Tryz.prog 160 #[.agg #[.pointer (some ⟨B,0,none⟩)],.int .i64 k] w fun r' w'=>r'=.returned (.bool (x.hands.any (gy k)))∧Below w.heap.size w w':=by
 have HH:=Lib.hid H
 obtain ⟨Pv,Pw,Ow⟩:=bO H.box
 clear H
 have eg:∀ args w,(callFunc 185 args).run Tryz.prog w=.ok (.enter 185 args) w:=enters_of Tryz.func185 (by kernel_rfl) rfl
 have HC:=Lib.hid fun (W:World) (C:Nat) (hb:Below w.heap.size w W) (z:hp W C=some (.cells #[.int .i64 k] 2))=>nT 185 #[] #[.pointer (some ⟨C,0,none⟩)] (gy k) x.hands d r W (HH.out.on hb).seg.2.2.1 (by have:=HH.out.len.2.2.1;omega) eg (fun W2 h hb2=>(D6 h k C W2 ((hb2.block C (bO z).2.2).trans z):Calls Tryz.prog _ #[_,_] _ _))
 clear eg
 go_enter Tryz.func160,Tryz.ntmps160
 go_wp2_with (go_at_call 174;refine au w zB fun bb=>?_;refine (HC.out _ (w.heap.size+1) bb (AU _ _ _)).mono ?_;rintro _ w1 ⟨rfl,hb1⟩)
 go_ret
 exact ⟨rfl,bT bb hb1⟩
theorem xM (x:Wo) (a b d e:Option Addr) (p q r v0 B:Nat) (w:World) (H:LB w B x a b d e p q r v0) (h:Ha) :
  Calls Tryz.prog 175 #[.agg #[.pointer (some ⟨B,0,none⟩)],.agg (aa h)] w fun r' w'=>r'=.returned (.bool (iC x.ch h))∧Below w.heap.size w w':=by
 have HH:=Lib.hid H
 clear H
 go_enter Tryz.func175,Tryz.ntmps175
 go_wp2_with fail
 generalize kr:World.alloc _ _=w5
 have Ba:hp w5 w.heap.size=some (.cells #[.pointer (some ⟨B,0,none⟩)] 97):=by rw [← kr];exact (Below.heap_alloc _ _ _ (by simp)).trans (heap_alloc_new _ _)
 have CO:hp w5 (w.heap.size+1)=some (.cells (aa h) 49):=by rw [← kr];have e:=heap_alloc_new (World.alloc w (.cells #[.pointer (some ⟨B,0,none⟩)] 97)) (.cells (aa h) 49);rwa [World.size_alloc] at e
 have jA:Below w.heap.size w w5:=by rw [← kr];exact (bE _ _).trans ((bE _ _).mono (by simp))
 clear kr
 have M6:=(HH.out.on jA).box
 refine bJ [[],[0],[0,1],[0,1,2],[0,1,2,3],[0,1,2,3,4],[0,1,2,3,4,5],[0,1,2,3,4,5,6],qB [],[0,1,2,3],qB [8,9],qB [8,9,10],qB [8,9,10,11],qB [8,9,10,11,12]] [5,6,7,8,9,10,11,12,13,14,15,16,17,4] (fun l s wx=>(Below w5.heap.size w5 wx)∧(l 0=true→s 5=.pointer (some ⟨w.heap.size+1,0,none⟩))∧(l 1=true→s 6=.int .i64 h.pos)∧(l 2=true→s 7=.bool (h.pos != 0))∧(l 3=true→s 8=.bool (h.pos != 0))∧(l 4=true→(h.pos != 0)=true→s 9=.pointer (some ⟨w.heap.size,0,none⟩))∧(l 5=true→(h.pos != 0)=true→s 10=.pointer (some ⟨B,0,none⟩))∧(l 6=true→(h.pos != 0)=true→s 11=.pointer (some ⟨B,0,none⟩))∧(l 7=true→(h.pos != 0)=true→s 12=.pointer (some ⟨B,0,none⟩))∧(l 8=true→(h.pos != 0)=true→s 13=.agg (af x.ch (.slice a x.ch.cells.length p) (.slice b x.ch.words.length q)))∧(l 9=true→(h.pos != 0)=true→s 14=.agg (aa h))∧(l 10=true→(h.pos != 0)=true→s 15=.bool (gI x.ch h))∧(l 11=true→(h.pos != 0)=true→s 16=.bool (!gI x.ch h))∧(l 12=true→s 17=.bool (iC x.ch h))∧(l 13=true→s 4=.bool (iC x.ch h))) (by kernel_rfl) (by kernel_rfl) (by kernel_rfl) (fun s=>by (simp only [fill,gp,List.setIfInBounds_toArray,List.set_cons_zero,List.set_cons_succ];rfl)) (fun s=>⟨(Below.refl _ _).drew,nB,nB,nB,nB,nB,nB,nB,nB,nB,nB,nB,nB,nB,nB⟩) ?_ ?_
 refine ⟨?_,?_,?_,?_,?_,?_,?_,?_,?_,?_,?_,?_,?_,?_,trivial⟩;iterate 14 (intro l s wx hl hd hn hf K hK;rotate_left)
 ·intro l s w6 jy hf
  have ec:=(jC (jD hf)).2.2 (jy 13 rfl)
  have hb6:Below w5.heap.size w5 w6:=hf.1
  simp only [ec]
  clear ec hf jy
  go_wp2
  go_ret
  exact ⟨rfl,jA.trans (hb6.mono jA.size)⟩
 ·go_simp
  refine hK.out (upd s 5 (.pointer (some ⟨w.heap.size+1,0,none⟩))) _ _ (by simp [ae] <;> rfl) (kA (kX (fun _=>rfl) id) hf.out)
 ·have e0:=(hf.out.2.1 (hd 0 rfl))
  have z:=(bO (fC CO hf.out.1)).1 0
  go_simp
  refine hK.out (upd s 6 (.int .i64 h.pos)) _ _ (by simp [ae,e0] <;> rfl) (kB (kX (fun _=>rfl) id) hf.out)
 ·have e1:=(hf.out.2.2.1 (hd 1 rfl))
  go_simp
  refine hK.out (upd s 7 (.bool (h.pos != 0))) _ _ (by simp [ae,e1] <;> rfl) (kB (kA (kX (fun _=>rfl) id)) hf.out)
 ·have e2:=(hf.out.2.2.2.1 (hd 2 rfl))
  go_simp
  refine hK.out (upd s 8 (.bool (h.pos != 0))) _ _ (by simp [ae,e2] <;> rfl) (kC (kX (fun _=>rfl) id) hf.out)
 ·have e3:=(hf.out.2.2.2.2.1 (hd 3 rfl))
  cases hG:((h.pos != 0)) with
  | true =>
   rw [hG] at e3
   go_simp
   refine hK.out (upd s 9 (.pointer (some ⟨w.heap.size,0,none⟩))) _ _ (by simp [ae,e3] <;> rfl) (kC (kA (kX (fun _ _=>rfl) id)) hf.out)
  | false =>
   rw [hG] at e3
   go_simp
   refine hK.out (upd s 9 (undef)) _ _ (by simp [ae,e3] <;> rfl) (kC (kA (kX (fun _ h=>Bool.noConfusion (h.symm.trans hG)) id)) hf.out)
 ·have e3:=(hf.out.2.2.2.2.1 (hd 3 rfl))
  cases hG:((h.pos != 0)) with
  | true =>
   rw [hG] at e3
   have e4:=((jC hf.out).2.1 (hd 4 rfl)) hG
   have z:=(bO (fC Ba hf.out.1)).1 0
   go_simp
   refine hK.out (upd s 10 (.pointer (some ⟨B,0,none⟩))) _ _ (by simp [ae,e3,e4] <;> rfl) (kC (kB (kX (fun _ _=>rfl) id)) hf.out)
  | false =>
   rw [hG] at e3
   go_simp
   refine hK.out (upd s 10 (undef)) _ _ (by simp [ae,e3] <;> rfl) (kC (kB (kX (fun _ h=>Bool.noConfusion (h.symm.trans hG)) id)) hf.out)
 ·have e3:=(hf.out.2.2.2.2.1 (hd 3 rfl))
  cases hG:((h.pos != 0)) with
  | true =>
   rw [hG] at e3
   have e5:=((jC hf.out).2.2.1 (hd 5 rfl)) hG
   go_simp
   refine hK.out (upd s 11 (.pointer (some ⟨B,0,none⟩))) _ _ (by simp [ae,e3,e5] <;> rfl) (kC (kB (kA (kX (fun _ _=>rfl) id))) hf.out)
  | false =>
   rw [hG] at e3
   go_simp
   refine hK.out (upd s 11 (undef)) _ _ (by simp [ae,e3] <;> rfl) (kC (kB (kA (kX (fun _ h=>Bool.noConfusion (h.symm.trans hG)) id))) hf.out)
 ·have e3:=(hf.out.2.2.2.2.1 (hd 3 rfl))
  cases hG:((h.pos != 0)) with
  | true =>
   rw [hG] at e3
   have e6:=((jC hf.out).2.2.2.1 (hd 6 rfl)) hG
   go_simp
   refine hK.out (upd s 12 (.pointer (some ⟨B,0,none⟩))) _ _ (by simp [ae,e3,e6] <;> rfl) (kD (kX (fun _ _=>rfl) id) hf.out)
  | false =>
   rw [hG] at e3
   go_simp
   refine hK.out (upd s 12 (undef)) _ _ (by simp [ae,e3] <;> rfl) (kD (kX (fun _ h=>Bool.noConfusion (h.symm.trans hG)) id) hf.out)
 ·have e3:=(hf.out.2.2.2.2.1 (hd 3 rfl))
  cases hG:((h.pos != 0)) with
  | true =>
   rw [hG] at e3
   have e7:=((jD hf.out).1 (hd 7 rfl)) hG
   have z:=xI (x:=x) (fC M6 hf.out.1)
   go_simp
   refine hK.out (upd s 13 (.agg (af x.ch (.slice a x.ch.cells.length p) (.slice b x.ch.words.length q)))) _ _ (by simp [ae,e3,e7] <;> rfl) (kD (kA (kX (fun _ _=>rfl) id)) hf.out)
  | false =>
   rw [hG] at e3
   go_simp
   refine hK.out (upd s 13 (undef)) _ _ (by simp [ae,e3] <;> rfl) (kD (kA (kX (fun _ h=>Bool.noConfusion (h.symm.trans hG)) id)) hf.out)
 ·have e3:=(hf.out.2.2.2.2.1 (hd 3 rfl))
  cases hG:((h.pos != 0)) with
  | true =>
   rw [hG] at e3
   have z:=fC CO hf.out.1
   go_simp
   refine hK.out (upd s 14 (.agg (aa h))) _ _ (by simp [ae,e3] <;> rfl) (kD (kB (kX (fun _ _=>rfl) id)) hf.out)
  | false =>
   rw [hG] at e3
   go_simp
   refine hK.out (upd s 14 (undef)) _ _ (by simp [ae,e3] <;> rfl) (kD (kB (kX (fun _ h=>Bool.noConfusion (h.symm.trans hG)) id)) hf.out)
 ·have e3:=(hf.out.2.2.2.2.1 (hd 3 rfl))
  cases hG:((h.pos != 0)) with
  | true =>
   rw [hG] at e3
   have e8:=((jD hf.out).2.1 (hd 8 rfl)) hG
   have e9:=((jD hf.out).2.2.1 (hd 9 rfl)) hG
   go_simp
   go_at_call 107
   refine (oP x.ch h a b p q _ ((HH.out.on jA).on hf.out.1).seg.1 HH.out.non.1 ((HH.out.on jA).on hf.out.1).seg.2.1 HH.out.non.2.1 (by have:=HH.out.len.1;unfold maxLen;omega) (by have:=HH.out.len.2.1;unfold maxLen;omega)).mono ?_
   rintro _ wy ⟨rfl,hE⟩
   refine hK.out (upd s 15 (.bool (gI x.ch h))) _ _ (by simp [ae,e3,e8,e9] <;> rfl) (kX (bT hf.out.1 hE) (kD (kB (kX (fun _ _=>rfl) (kX (nU (hn 11 rfl)) (kX (nU (hn 12 rfl)) (fun _=>nU (hn 13 rfl))))))) hf.out)
  | false =>
   rw [hG] at e3
   go_simp
   refine hK.out (upd s 15 (undef)) _ _ (by simp [ae,e3] <;> rfl) (kD (kB (kA (kX (fun _ h=>Bool.noConfusion (h.symm.trans hG)) id))) hf.out)
 ·have e3:=(hf.out.2.2.2.2.1 (hd 3 rfl))
  cases hG:((h.pos != 0)) with
  | true =>
   rw [hG] at e3
   have e10:=((jD hf.out).2.2.2.1 (hd 10 rfl)) hG
   go_simp
   refine hK.out (upd s 16 (.bool (!gI x.ch h))) _ _ (by simp [ae,e3,e10] <;> rfl) (kD (kC (kX (fun _ _=>rfl) id)) hf.out)
  | false =>
   rw [hG] at e3
   go_simp
   refine hK.out (upd s 16 (undef)) _ _ (by simp [ae,e3] <;> rfl) (kD (kC (kX (fun _ h=>Bool.noConfusion (h.symm.trans hG)) id)) hf.out)
 ·have e3:=(hf.out.2.2.2.2.1 (hd 3 rfl))
  have e11:=((jC (jD hf.out)).1 (hd 11 rfl))
  cases hG:((h.pos != 0)) with
  | true =>
   rw [hG] at e3
   replace e11:=e11 hG
   go_simp
   refine hK.out (upd s 17 (.bool (!gI x.ch h))) _ _ (by simp [ae,e3,e11] <;> rfl) (kD (kC (kA (kX (fun _=>by rw [show (upd s 17 (.bool (!gI x.ch h))) 17=.bool (!gI x.ch h) from rfl];exact Mx hG) id))) hf.out)
  | false =>
   clear e11
   rw [hG] at e3
   go_simp
   refine hK.out (upd s 17 (.bool false)) _ _ (by simp [ae,e3] <;> rfl) (kD (kC (kA (kX (fun _=>by rw [show (upd s 17 (.bool false)) 17=.bool false from rfl];exact M0 hG) id))) hf.out)
 ·have e12:=((jC (jD hf.out)).2.1 (hd 12 rfl))
  go_simp
  refine hK.out (upd s 4 (.bool (iC x.ch h))) _ _ (by simp [ae,e12] <;> rfl) (kD (kC (kB (fun _=>fun _=>rfl))) hf.out)
theorem xN (x:Wo) (a b d e:Option Addr) (p q r v0 B:Nat) (w:World) (H:LB w B x a b d e p q r v0) :
  Calls Tryz.prog 128 #[.agg #[.pointer (some ⟨B,0,none⟩)]] w fun r' w'=>r'=.returned (.bool (!x.hands.any (iC x.ch)))∧Below w.heap.size w w':=by
 have HH:=Lib.hid H
 clear H
 have eg:∀ args w,(callFunc 175 args).run Tryz.prog w=.ok (.enter 175 args) w:=enters_of Tryz.func175 (by kernel_rfl) rfl
 have HC:=Lib.hid fun (W:World) (hb:Below w.heap.size w W)=>nT 175 #[.agg #[.pointer (some ⟨B,0,none⟩)]] #[] (iC x.ch) x.hands d r W (HH.out.on hb).seg.2.2.1 (by have:=HH.out.len.2.2.1;omega) eg (fun W2 h hb2=>(xM x a b d e p q r v0 B W2 ((HH.out.on hb).on hb2) h:Calls Tryz.prog _ #[_,_] _ _))
 clear eg
 go_enter Tryz.func128,Tryz.ntmps128
 go_wp2_with fail
 generalize kr:World.alloc w _=w5
 have Ba:hp w5 w.heap.size=some (.cells #[.pointer (some ⟨B,0,none⟩)] 97):=by rw [← kr];exact heap_alloc_new _ _
 have jA:Below w.heap.size w w5:=by rw [← kr];exact bE _ _
 clear kr
 have M6:=(HH.out.on jA).box
 refine bJ [[],[0],[0,1],[0,1,2],[0,1,2,3],[],[5],[0,1,2,3,4,5,6],qB [],qB [8]] [3,4,5,6,7,8,9,10,11,2] (fun l s wx=>(Below w5.heap.size w5 wx)∧(l 0=true→s 3=.pointer (some ⟨w.heap.size,0,none⟩))∧(l 1=true→s 4=.pointer (some ⟨B,0,none⟩))∧(l 2=true→s 5=.pointer (some ⟨B,0,none⟩))∧(l 3=true→s 6=.pointer (some ⟨B,6,none⟩))∧(l 4=true→s 7=.slice d x.hands.length r)∧(l 5=true→s 8=.agg #[.pointer (some ⟨B,0,none⟩)])∧(l 6=true→s 9=.func (.func 175) #[.agg #[.pointer (some ⟨B,0,none⟩)]] #[])∧(l 7=true→s 10=.bool (x.hands.any (iC x.ch)))∧(l 8=true→s 11=.bool (!x.hands.any (iC x.ch)))∧(l 9=true→s 2=.bool (!x.hands.any (iC x.ch)))) (by kernel_rfl) (by kernel_rfl) (by kernel_rfl) (fun s=>by (simp only [fill,gp,List.setIfInBounds_toArray,List.set_cons_zero,List.set_cons_succ];rfl)) (fun s=>⟨(Below.refl _ _).drew,nB,nB,nB,nB,nB,nB,nB,nB,nB,nB⟩) ?_ ?_
 refine ⟨?_,?_,?_,?_,?_,?_,?_,?_,?_,?_,trivial⟩;iterate 10 (intro l s wx hl hd hn hf K hK;rotate_left)
 ·intro l s w6 jy hf
  have ec:=(jD hf).2.2 (jy 9 rfl)
  have hb6:Below w5.heap.size w5 w6:=hf.1
  simp only [ec]
  clear ec hf jy
  go_wp2
  go_ret
  exact ⟨rfl,jA.trans (hb6.mono jA.size)⟩
 ·go_simp
  refine hK.out (upd s 3 (.pointer (some ⟨w.heap.size,0,none⟩))) _ _ (by simp [ae] <;> rfl) (kA (kX (fun _=>rfl) id) hf.out)
 ·have e0:=(hf.out.2.1 (hd 0 rfl))
  have z:=(bO (fC Ba hf.out.1)).1 0
  go_simp
  refine hK.out (upd s 4 (.pointer (some ⟨B,0,none⟩))) _ _ (by simp [ae,e0] <;> rfl) (kB (kX (fun _=>rfl) id) hf.out)
 ·have e1:=(hf.out.2.2.1 (hd 1 rfl))
  go_simp
  refine hK.out (upd s 5 (.pointer (some ⟨B,0,none⟩))) _ _ (by simp [ae,e1] <;> rfl) (kB (kA (kX (fun _=>rfl) id)) hf.out)
 ·have e2:=(hf.out.2.2.2.1 (hd 2 rfl))
  go_simp
  refine hK.out (upd s 6 (.pointer (some ⟨B,6,none⟩))) _ _ (by simp [ae,e2] <;> rfl) (kC (kX (fun _=>rfl) id) hf.out)
 ·have e3:=(hf.out.2.2.2.2.1 (hd 3 rfl))
  have z:=(bO (fC M6 hf.out.1)).1 6
  go_simp
  refine hK.out (upd s 7 (.slice d x.hands.length r)) _ _ (by simp [ae,e3] <;> rfl) (kC (kA (kX (fun _=>rfl) id)) hf.out)
 ·have z:=fC Ba hf.out.1
  have M7:=(bO z).1 0
  go_simp
  refine hK.out (upd s 8 (.agg #[.pointer (some ⟨B,0,none⟩)])) _ _ (by simp [ae] <;> rfl) (kC (kB (kX (fun _=>rfl) id)) hf.out)
 ·have e5:=((jC hf.out).2.2.1 (hd 5 rfl))
  go_simp
  refine hK.out (upd s 9 (.func (.func 175) #[.agg #[.pointer (some ⟨B,0,none⟩)]] #[])) _ _ (by simp [ae,e5] <;> rfl) (kC (kB (kA (kX (fun _=>rfl) id))) hf.out)
 ·have e4:=((jC hf.out).2.1 (hd 4 rfl))
  have e6:=((jC hf.out).2.2.2.1 (hd 6 rfl))
  go_simp
  go_at_call 174
  refine (HC.out _ (jA.trans ((hf.out.1).mono jA.size))).mono ?_
  rintro _ wy ⟨rfl,hE⟩
  refine hK.out (upd s 10 (.bool (x.hands.any (iC x.ch)))) _ _ (by simp [ae,e4,e6] <;> rfl) (kX (bT hf.out.1 hE) (kC (kB (kA (kX (fun _=>rfl) (kX (nU (hn 8 rfl)) (fun _=>nU (hn 9 rfl))))))) hf.out)
 ·have e7:=((jD hf.out).1 (hd 7 rfl))
  go_simp
  refine hK.out (upd s 11 (.bool (!x.hands.any (iC x.ch)))) _ _ (by simp [ae,e7] <;> rfl) (kD (kA (kX (fun _=>rfl) id)) hf.out)
 ·have e8:=((jD hf.out).2.1 (hd 8 rfl))
  go_simp
  refine hK.out (upd s 2 (.bool (!x.hands.any (iC x.ch)))) _ _ (by simp [ae,e8] <;> rfl) (kD (kB (fun _=>fun _=>rfl)) hf.out)
theorem AV (x:Wo) (a b d e:Option Addr) (p q r v0 B:Nat) (w:World) (H:LB w B x a b d e p q r v0) :
  Calls Tryz.prog 109 #[.agg #[.pointer (some ⟨B,0,none⟩)]] w fun r' w'=>r'=.returned (.bool (decide (((keptIn x.ch).length:Int)≤x.ch.cap)))∧Below w.heap.size w w':=by
 have HH:=Lib.hid H
 clear H
 go_enter Tryz.func109,Tryz.ntmps109
 go_wp2_with fail
 generalize kr:World.alloc w _=w5
 have Ba:hp w5 w.heap.size=some (.cells #[.pointer (some ⟨B,0,none⟩)] 97):=by rw [← kr];exact heap_alloc_new _ _
 have jA:Below w.heap.size w w5:=by rw [← kr];exact bE _ _
 clear kr
 have M6:=(HH.out.on jA).box
 refine bJ [[],[0],[],[2],[2,3],[2,3,4],[2,3,4,5],[2,3,4,5,6],qB [],qB [8]] [3,4,5,6,7,8,9,10,11,2] (fun l s wx=>(Below w5.heap.size w5 wx)∧(l 0=true→s 3=.agg #[.pointer (some ⟨B,0,none⟩)])∧(l 1=true→s 4=.int .i64 (keptIn x.ch).length)∧(l 2=true→s 5=.pointer (some ⟨w.heap.size,0,none⟩))∧(l 3=true→s 6=.pointer (some ⟨B,0,none⟩))∧(l 4=true→s 7=.pointer (some ⟨B,0,none⟩))∧(l 5=true→s 8=.pointer (some ⟨B,0,none⟩))∧(l 6=true→s 9=.pointer (some ⟨B,0,none⟩))∧(l 7=true→s 10=.int .i64 x.ch.cap)∧(l 8=true→s 11=.bool (decide (((keptIn x.ch).length:Int)≤x.ch.cap)))∧(l 9=true→s 2=.bool (decide (((keptIn x.ch).length:Int)≤x.ch.cap)))) (by kernel_rfl) (by kernel_rfl) (by kernel_rfl) (fun s=>by (simp only [fill,gp,List.setIfInBounds_toArray,List.set_cons_zero,List.set_cons_succ];rfl)) (fun s=>⟨(Below.refl _ _).drew,nB,nB,nB,nB,nB,nB,nB,nB,nB,nB⟩) ?_ ?_
 refine ⟨?_,?_,?_,?_,?_,?_,?_,?_,?_,?_,trivial⟩;iterate 10 (intro l s wx hl hd hn hf K hK;rotate_left)
 ·intro l s w6 jy hf
  have ec:=(jD hf).2.2 (jy 9 rfl)
  have hb6:Below w5.heap.size w5 w6:=hf.1
  simp only [ec]
  clear ec hf jy
  go_wp2
  go_ret
  exact ⟨rfl,jA.trans (hb6.mono jA.size)⟩
 ·have z:=fC Ba hf.out.1
  have M7:=(bO z).1 0
  go_simp
  refine hK.out (upd s 3 (.agg #[.pointer (some ⟨B,0,none⟩)])) _ _ (by simp [ae] <;> rfl) (kA (kX (fun _=>rfl) id) hf.out)
 ·have e0:=(hf.out.2.1 (hd 0 rfl))
  go_simp
  go_at_call 159
  refine (mg x a b d e p q r v0 B _ ((HH.out.on jA).on hf.out.1)).mono ?_
  rintro _ wy ⟨rfl,hE⟩
  refine hK.out (upd s 4 (.int .i64 (keptIn x.ch).length)) _ _ (by simp [ae,e0] <;> rfl) (kX (bT hf.out.1 hE) (kA (kX (fun _=>rfl) (kC (kB (kX (nU (hn 8 rfl)) (fun _=>nU (hn 9 rfl))))))) hf.out)
 ·go_simp
  refine hK.out (upd s 5 (.pointer (some ⟨w.heap.size,0,none⟩))) _ _ (by simp [ae] <;> rfl) (kB (kA (kX (fun _=>rfl) id)) hf.out)
 ·have e2:=(hf.out.2.2.2.1 (hd 2 rfl))
  have z:=(bO (fC Ba hf.out.1)).1 0
  go_simp
  refine hK.out (upd s 6 (.pointer (some ⟨B,0,none⟩))) _ _ (by simp [ae,e2] <;> rfl) (kC (kX (fun _=>rfl) id) hf.out)
 ·have e3:=(hf.out.2.2.2.2.1 (hd 3 rfl))
  go_simp
  refine hK.out (upd s 7 (.pointer (some ⟨B,0,none⟩))) _ _ (by simp [ae,e3] <;> rfl) (kC (kA (kX (fun _=>rfl) id)) hf.out)
 ·have e4:=((jC hf.out).2.1 (hd 4 rfl))
  go_simp
  refine hK.out (upd s 8 (.pointer (some ⟨B,0,none⟩))) _ _ (by simp [ae,e4] <;> rfl) (kC (kB (kX (fun _=>rfl) id)) hf.out)
 ·have e5:=((jC hf.out).2.2.1 (hd 5 rfl))
  go_simp
  refine hK.out (upd s 9 (.pointer (some ⟨B,0,none⟩))) _ _ (by simp [ae,e5] <;> rfl) (kC (kB (kA (kX (fun _=>rfl) id))) hf.out)
 ·have e6:=((jC hf.out).2.2.2.1 (hd 6 rfl))
  have z:=(bO (fC M6 hf.out.1)).1 0
  go_simp
  refine hK.out (upd s 10 (.int .i64 x.ch.cap)) _ _ (by simp [ae,e6] <;> rfl) (kD (kX (fun _=>rfl) id) hf.out)
 ·have e1:=(hf.out.2.2.1 (hd 1 rfl))
  have e7:=((jD hf.out).1 (hd 7 rfl))
  go_simp
  refine hK.out (upd s 11 (.bool (decide (((keptIn x.ch).length:Int)≤x.ch.cap)))) _ _ (by simp [ae,e1,e7] <;> rfl) (kD (kA (kX (fun _=>rfl) id)) hf.out)
 ·have e8:=((jD hf.out).2.1 (hd 8 rfl))
  go_simp
  refine hK.out (upd s 2 (.bool (decide (((keptIn x.ch).length:Int)≤x.ch.cap)))) _ _ (by simp [ae,e8] <;> rfl) (kD (kB (fun _=>fun _=>rfl)) hf.out)
theorem xO (x:Wo) (a b d e:Option Addr) (p q r v0 B:Nat) (w:World) (H:LB w B x a b d e p q r v0) :
  Calls Tryz.prog 110 #[.agg #[.pointer (some ⟨B,0,none⟩)]] w fun r' w'=>r'=.returned (.bool (!x.hands.any (gy 1) || (((keptIn x.ch).length:Int) == x.ch.cap)))∧Below w.heap.size w w':=by
 have HH:=Lib.hid H
 clear H
 obtain ⟨q1,hq⟩:∃ q1,Hid (x.hands.any (gy 1)=q1):=⟨_,rfl⟩
 rw [hq.out]
 go_enter Tryz.func110,Tryz.ntmps110
 go_wp2_with fail
 generalize kr:World.alloc w _=w5
 have Ba:hp w5 w.heap.size=some (.cells #[.pointer (some ⟨B,0,none⟩)] 97):=by rw [← kr];exact heap_alloc_new _ _
 have jA:Below w.heap.size w w5:=by rw [← kr];exact bE _ _
 clear kr
 have M6:=(HH.out.on jA).box
 refine bJ [[],[0],[0,1],[0,1,2],[0,1,2,3],[0,1,2,3,4],[0,1,2,3],[0,1,2,3,6],[0,1,2,3,6,7],[0,1,2,3,6,7,8],[0,1,2,3,6,7,8,9],[0,1,2,3,6,7,8,9,10],qB [8,9,10,11],qB [8,9,10,11,12],qB [8,9,10,11,12,13]] [3,4,5,6,7,8,9,10,11,12,13,14,15,16,2] (fun l s wx=>(Below w5.heap.size w5 wx)∧(l 0=true→s 3=.agg #[.pointer (some ⟨B,0,none⟩)])∧(l 1=true→s 4=.bool q1)∧(l 2=true→s 5=.bool (!q1))∧(l 3=true→s 6=.bool (!q1))∧(l 4=true→q1=true→s 7=.agg #[.pointer (some ⟨B,0,none⟩)])∧(l 5=true→q1=true→s 8=.int .i64 (keptIn x.ch).length)∧(l 6=true→q1=true→s 9=.pointer (some ⟨w.heap.size,0,none⟩))∧(l 7=true→q1=true→s 10=.pointer (some ⟨B,0,none⟩))∧(l 8=true→q1=true→s 11=.pointer (some ⟨B,0,none⟩))∧(l 9=true→q1=true→s 12=.pointer (some ⟨B,0,none⟩))∧(l 10=true→q1=true→s 13=.pointer (some ⟨B,0,none⟩))∧(l 11=true→q1=true→s 14=.int .i64 x.ch.cap)∧(l 12=true→q1=true→s 15=.bool (((keptIn x.ch).length:Int) == x.ch.cap))∧(l 13=true→s 16=.bool (!q1 || (((keptIn x.ch).length:Int) == x.ch.cap)))∧(l 14=true→s 2=.bool (!q1 || (((keptIn x.ch).length:Int) == x.ch.cap)))) (by kernel_rfl) (by kernel_rfl) (by kernel_rfl) (fun s=>by (simp only [fill,gp,List.setIfInBounds_toArray,List.set_cons_zero,List.set_cons_succ];rfl)) (fun s=>⟨(Below.refl _ _).drew,nB,nB,nB,nB,nB,nB,nB,nB,nB,nB,nB,nB,nB,nB,nB⟩) ?_ ?_
 refine ⟨?_,?_,?_,?_,?_,?_,?_,?_,?_,?_,?_,?_,?_,?_,?_,trivial⟩;iterate 15 (intro l s wx hl hd hn hf K hK;rotate_left)
 ·intro l s w6 jy hf
  have ec:=(jC (jD hf)).2.2.2 (jy 14 rfl)
  have hb6:Below w5.heap.size w5 w6:=hf.1
  simp only [ec]
  clear ec hf jy
  go_wp2
  go_ret
  exact ⟨rfl,jA.trans (hb6.mono jA.size)⟩
 ·have z:=fC Ba hf.out.1
  have M7:=(bO z).1 0
  go_simp
  refine hK.out (upd s 3 (.agg #[.pointer (some ⟨B,0,none⟩)])) _ _ (by simp [ae] <;> rfl) (kA (kX (fun _=>rfl) id) hf.out)
 ·have e0:=(hf.out.2.1 (hd 0 rfl))
  go_simp
  go_at_call 160
  refine (kY x a b d e p q r v0 B _ ((HH.out.on jA).on hf.out.1) 1).mono ?_
  rintro _ wy ⟨rfl,hE⟩
  rw [hq.out]
  refine hK.out (upd s 4 (.bool q1)) _ _ (by simp [ae,e0] <;> rfl) ⟨bT hf.out.1 hE,hf.out.2.1,fun _=>rfl,nU (hn 2 rfl),nU (hn 3 rfl),nU (hn 4 rfl),nU (hn 5 rfl),nU (hn 6 rfl),nU (hn 7 rfl),nU (hn 8 rfl),nU (hn 9 rfl),nU (hn 10 rfl),nU (hn 11 rfl),nU (hn 12 rfl),nU (hn 13 rfl),nU (hn 14 rfl)⟩
 ·have e1:=(hf.out.2.2.1 (hd 1 rfl))
  go_simp
  refine hK.out (upd s 5 (.bool (!q1))) _ _ (by simp [ae,e1] <;> rfl) (kB (kA (kX (fun _=>rfl) id)) hf.out)
 ·have e2:=(hf.out.2.2.2.1 (hd 2 rfl))
  go_simp
  refine hK.out (upd s 6 (.bool (!q1))) _ _ (by simp [ae,e2] <;> rfl) (kC (kX (fun _=>rfl) id) hf.out)
 ·have e3:=(hf.out.2.2.2.2.1 (hd 3 rfl))
  cases hG:(q1) with
  | true =>
   rw [hG] at e3
   have z:=fC Ba hf.out.1
   have M7:=(bO z).1 0
   go_simp
   refine hK.out (upd s 7 (.agg #[.pointer (some ⟨B,0,none⟩)])) _ _ (by simp [ae,e3] <;> rfl) (kC (kA (kX (fun _ _=>rfl) id)) hf.out)
  | false =>
   rw [hG] at e3
   go_simp
   refine hK.out (upd s 7 (undef)) _ _ (by simp [ae,e3] <;> rfl) (kC (kA (kX (fun _ h=>Bool.noConfusion (h.symm.trans hG)) id)) hf.out)
 ·have e3:=(hf.out.2.2.2.2.1 (hd 3 rfl))
  cases hG:(q1) with
  | true =>
   rw [hG] at e3
   have e4:=((jC hf.out).2.1 (hd 4 rfl)) hG
   go_simp
   go_at_call 159
   refine (mg x a b d e p q r v0 B _ ((HH.out.on jA).on hf.out.1)).mono ?_
   rintro _ wy ⟨rfl,hE⟩
   refine hK.out (upd s 8 (.int .i64 (keptIn x.ch).length)) _ _ (by simp [ae,e3,e4] <;> rfl) (kX (bT hf.out.1 hE) (kC (kA (kX (fun _ _=>rfl) (kC (kB (kX (nU (hn 12 rfl)) (kX (nU (hn 13 rfl)) (fun _=>nU (hn 14 rfl))))))))) hf.out)
  | false =>
   rw [hG] at e3
   go_simp
   refine hK.out (upd s 8 (undef)) _ _ (by simp [ae,e3] <;> rfl) (kC (kB (kX (fun _ h=>Bool.noConfusion (h.symm.trans hG)) id)) hf.out)
 ·have e3:=(hf.out.2.2.2.2.1 (hd 3 rfl))
  cases hG:(q1) with
  | true =>
   rw [hG] at e3
   go_simp
   refine hK.out (upd s 9 (.pointer (some ⟨w.heap.size,0,none⟩))) _ _ (by simp [ae,e3] <;> rfl) (kC (kB (kA (kX (fun _ _=>rfl) id))) hf.out)
  | false =>
   rw [hG] at e3
   go_simp
   refine hK.out (upd s 9 (undef)) _ _ (by simp [ae,e3] <;> rfl) (kC (kB (kA (kX (fun _ h=>Bool.noConfusion (h.symm.trans hG)) id))) hf.out)
 ·have e3:=(hf.out.2.2.2.2.1 (hd 3 rfl))
  cases hG:(q1) with
  | true =>
   rw [hG] at e3
   have e6:=((jC hf.out).2.2.2.1 (hd 6 rfl)) hG
   have z:=(bO (fC Ba hf.out.1)).1 0
   go_simp
   refine hK.out (upd s 10 (.pointer (some ⟨B,0,none⟩))) _ _ (by simp [ae,e3,e6] <;> rfl) (kD (kX (fun _ _=>rfl) id) hf.out)
  | false =>
   rw [hG] at e3
   go_simp
   refine hK.out (upd s 10 (undef)) _ _ (by simp [ae,e3] <;> rfl) (kD (kX (fun _ h=>Bool.noConfusion (h.symm.trans hG)) id) hf.out)
 ·have e3:=(hf.out.2.2.2.2.1 (hd 3 rfl))
  cases hG:(q1) with
  | true =>
   rw [hG] at e3
   have e7:=((jD hf.out).1 (hd 7 rfl)) hG
   go_simp
   refine hK.out (upd s 11 (.pointer (some ⟨B,0,none⟩))) _ _ (by simp [ae,e3,e7] <;> rfl) (kD (kA (kX (fun _ _=>rfl) id)) hf.out)
  | false =>
   rw [hG] at e3
   go_simp
   refine hK.out (upd s 11 (undef)) _ _ (by simp [ae,e3] <;> rfl) (kD (kA (kX (fun _ h=>Bool.noConfusion (h.symm.trans hG)) id)) hf.out)
 ·have e3:=(hf.out.2.2.2.2.1 (hd 3 rfl))
  cases hG:(q1) with
  | true =>
   rw [hG] at e3
   have e8:=((jD hf.out).2.1 (hd 8 rfl)) hG
   go_simp
   refine hK.out (upd s 12 (.pointer (some ⟨B,0,none⟩))) _ _ (by simp [ae,e3,e8] <;> rfl) (kD (kB (kX (fun _ _=>rfl) id)) hf.out)
  | false =>
   rw [hG] at e3
   go_simp
   refine hK.out (upd s 12 (undef)) _ _ (by simp [ae,e3] <;> rfl) (kD (kB (kX (fun _ h=>Bool.noConfusion (h.symm.trans hG)) id)) hf.out)
 ·have e3:=(hf.out.2.2.2.2.1 (hd 3 rfl))
  cases hG:(q1) with
  | true =>
   rw [hG] at e3
   have e9:=((jD hf.out).2.2.1 (hd 9 rfl)) hG
   go_simp
   refine hK.out (upd s 13 (.pointer (some ⟨B,0,none⟩))) _ _ (by simp [ae,e3,e9] <;> rfl) (kD (kB (kA (kX (fun _ _=>rfl) id))) hf.out)
  | false =>
   rw [hG] at e3
   go_simp
   refine hK.out (upd s 13 (undef)) _ _ (by simp [ae,e3] <;> rfl) (kD (kB (kA (kX (fun _ h=>Bool.noConfusion (h.symm.trans hG)) id))) hf.out)
 ·have e3:=(hf.out.2.2.2.2.1 (hd 3 rfl))
  cases hG:(q1) with
  | true =>
   rw [hG] at e3
   have e10:=((jD hf.out).2.2.2.1 (hd 10 rfl)) hG
   have z:=(bO (fC M6 hf.out.1)).1 0
   go_simp
   refine hK.out (upd s 14 (.int .i64 x.ch.cap)) _ _ (by simp [ae,e3,e10] <;> rfl) (kD (kC (kX (fun _ _=>rfl) id)) hf.out)
  | false =>
   rw [hG] at e3
   go_simp
   refine hK.out (upd s 14 (undef)) _ _ (by simp [ae,e3] <;> rfl) (kD (kC (kX (fun _ h=>Bool.noConfusion (h.symm.trans hG)) id)) hf.out)
 ·have e3:=(hf.out.2.2.2.2.1 (hd 3 rfl))
  cases hG:(q1) with
  | true =>
   rw [hG] at e3
   have e5:=((jC hf.out).2.2.1 (hd 5 rfl)) hG
   have e11:=((jC (jD hf.out)).1 (hd 11 rfl)) hG
   go_simp
   refine hK.out (upd s 15 (.bool (((keptIn x.ch).length:Int) == x.ch.cap))) _ _ (by simp [ae,e3,e5,e11] <;> rfl) (kD (kC (kA (kX (fun _ _=>rfl) id))) hf.out)
  | false =>
   rw [hG] at e3
   go_simp
   refine hK.out (upd s 15 (undef)) _ _ (by simp [ae,e3] <;> rfl) (kD (kC (kA (kX (fun _ h=>Bool.noConfusion (h.symm.trans hG)) id))) hf.out)
 ·have e3:=(hf.out.2.2.2.2.1 (hd 3 rfl))
  have e12:=((jC (jD hf.out)).2.1 (hd 12 rfl))
  cases hG:(q1) with
  | true =>
   rw [hG] at e3
   replace e12:=e12 hG
   go_simp
   refine hK.out (upd s 16 (.bool (((keptIn x.ch).length:Int) == x.ch.cap))) _ _ (by simp [ae,e3,e12] <;> rfl) (kD (kC (kB (kX (fun _=>by rw [show (upd s 16 (.bool (((keptIn x.ch).length:Int) == x.ch.cap))) 16=.bool (((keptIn x.ch).length:Int) == x.ch.cap) from rfl,hG];rfl) id))) hf.out)
  | false =>
   clear e12
   rw [hG] at e3
   go_simp
   refine hK.out (upd s 16 (.bool true)) _ _ (by simp [ae,e3] <;> rfl) (kD (kC (kB (kX (fun _=>by rw [show (upd s 16 (.bool true)) 16=.bool true from rfl,hG];rfl) id))) hf.out)
 ·have e13:=((jC (jD hf.out)).2.2.1 (hd 13 rfl))
  go_simp
  refine hK.out (upd s 2 (.bool (!q1 || (((keptIn x.ch).length:Int) == x.ch.cap)))) _ _ (by simp [ae,e13] <;> rfl) (kD (kC (kB (kA (fun _=>fun _=>rfl)))) hf.out)
theorem xP (x:Wo) (a b d e:Option Addr) (p q r v0 B:Nat) (w:World) (H:LB w B x a b d e p q r v0) :
  Calls Tryz.prog 111 #[.agg #[.pointer (some ⟨B,0,none⟩)]] w fun r' w'=>r'=.returned (.bool (!x.hands.any (gy 2) || ((keptIn x.ch).length == 0 && !x.hands.any (gy 1))))∧Below w.heap.size w w':=by
 have HH:=Lib.hid H
 clear H
 obtain ⟨q1,hq1⟩:∃ q1,Hid (x.hands.any (gy 1)=q1):=⟨_,rfl⟩
 obtain ⟨q2,hq2⟩:∃ q2,Hid (x.hands.any (gy 2)=q2):=⟨_,rfl⟩
 obtain ⟨kl,hkl⟩:∃ kl,Hid ((keptIn x.ch).length=kl):=⟨_,rfl⟩
 rw [hq1.out,hq2.out,hkl.out]
 have e0:(((kl:Nat):Int) == 0)=(kl == 0):=by rw [Bool.eq_iff_iff];simp
 go_enter Tryz.func111,Tryz.ntmps111
 go_wp2_with fail;refine au w zB fun bb=>?_;refine (kY x a b d e p q r v0 B _ (HH.out.on bb) 2).mono ?_;rintro _ w1 ⟨rfl,ag⟩;obtain ⟨aV,ak,zz⟩:=Ng bb ag (b:=w.heap.size);(try simp at ak);(try simp [go_sem] at zz);replace bX:=MH zz;clear zz ag bb
 rw [hq2.out]
 cases q2 with
 | false =>
  go_wp2
  go_ret
  exact ⟨rfl,by exact zB⟩
 | true =>
  go_wp2_with fail;refine au w zB fun bb=>?_;refine (mg x a b d e p q r v0 B _ (HH.out.on bb)).mono ?_;rintro _ w2 ⟨rfl,hbw2⟩;obtain ⟨dh,aR,zz⟩:=Ng bb hbw2 (b:=w.heap.size);(try simp at aR);(first|simp [go_sem,bX] at zz|simp [go_sem] at zz|skip);replace bX:=MH zz;clear zz hbw2 bb
  rw [hkl.out]
  cases hk0:(kl == 0) with
  | false =>
   rw [hk0] at e0
   go_wp2
   go_ret
   exact ⟨aZ (by rw [hk0];rfl),by exact zB⟩
  | true =>
   rw [hk0] at e0
   go_wp2_with fail;refine au w zB fun bb=>?_;refine (kY x a b d e p q r v0 B _ (HH.out.on bb) 1).mono ?_;rintro _ w3 ⟨rfl,aC⟩;obtain ⟨iG,bM,zz⟩:=Ng bb aC (b:=w.heap.size);(try simp at bM);(first|simp [go_sem,bX] at zz|simp [go_sem] at zz|skip);replace bX:=MH zz;clear zz aC bb
   rw [hq1.out]
   go_wp2
   go_ret
   exact ⟨aZ (by rw [hk0];cases q1 <;> rfl),by exact zB⟩
end
section
open Go.RowKit
attribute [local simp] aI
attribute [local go_sem ↓] aH aU aM bz aN bB aA aK ax aB
def M8 (B:Nat) (fs:List Nat) (i _j:Nat):Value:=.func (.func (fs.getD i 0)) #[.agg #[.pointer (some ⟨B,0,none⟩)]] #[]
def MV (B:Nat) (fs:List Nat):List Value:=fs.map fun f=>.func (.func f) #[.agg #[.pointer (some ⟨B,0,none⟩)]] #[]
theorem Er (B:Nat) (fs:List Nat):∀ i j,i<fs.length→j<1→(MV B fs)[i*1+j]?=some (M8 B fs i j):=fun i j hi hj=>by
 have:j=0:=by omega
 subst this
 simp [MV,M8,List.getD,hi]
theorem D8 {w:World} {lo:Nat} {t:TypeId} {n k:Nat} {v:Value} {xs:List Value} {f:Nat→Nat→Value} (h:w.ownsRow lo t k v n xs) (hf:∀ i j,i<n→j<k→xs[i*k+j]?=some (f i j)):∃ (a:Option Addr) (cap:Nat),v=.slice a n cap∧Seg w w.heap.size a n k f∧(a=none→n=0∧cap=0):=by
 obtain ⟨a,cap,rfl,hs⟩:=xz h hf
 refine ⟨a,cap,rfl,hs,fun e=>?_⟩
 subst e
 rcases h.2 with ⟨e,h0⟩|⟨g,cap,cur,e,_⟩
 ·simp at e;exact ⟨h0,e.2⟩
 ·simp at e
def LK (w:World) (lo:Nat) (v:Value) (B:Nat) (fs:List Nat):Prop:=w.ownsRow lo 145 1 v fs.length (MV B fs)
theorem LK.opens {w:World} {lo:Nat} {v:Value} {B:Nat} {fs:List Nat} (h:LK w lo v B fs):∃ (a:Option Addr) (cap:Nat),v=.slice a fs.length cap∧Seg w w.heap.size a fs.length 1 (M8 B fs)∧(a=none→fs.length=0∧cap=0):=D8 h (Er B fs)
theorem nV (B:Nat) (w:World):Calls Tryz.prog 77 #[.agg #[.pointer (some ⟨B,0,none⟩)]] w fun r' w'=>(∃ v,r'=.returned v∧LK w' w.heap.size v B [127,128])∧Below w.heap.size w w':=by
 go_enter Tryz.func77,Tryz.ntmps77
 go_wp2
 go_ret
 exact ⟨⟨_,rfl,AL (AU _ _ _) rfl tO (by decide)⟩,by exact zB⟩
theorem FY {A:Nat→Bool} {fs:List Nat} {k g:Nat} (hk:k<fs.length) (hc:fs.getD k 0=g) (e:(fs.take k).all A=true) (e1:A g=true):(fs.take (k+1)).all A=true:=by
 rw [List.take_add_one,List.getElem?_eq_getElem hk,List.all_append,e]
 simp [List.getD,List.getElem?_eq_getElem hk] at hc
 simp [hc,e1]
theorem sW (B:Nat) (fs:List Nat) (A:Nat→Bool) (d:Option Addr) (r:Nat) (w:World) (h:Seg w w.heap.size d fs.length 1 (M8 B fs)) (m:fs.length≤1099511627776)
  (eg:∀ f ∈ fs,∀ args w,(callFunc f args).run Tryz.prog w=.ok (.enter f args) w)
  (HP:∀ f ∈ fs,∀ W:World,Below w.heap.size w W→Calls Tryz.prog f #[.agg #[.pointer (some ⟨B,0,none⟩)]] W fun r' w'=>r'=.returned (.bool (A f))∧Below W.heap.size W w') :
  Calls Tryz.prog 58 #[.slice d fs.length r] w fun r' w'=>r'=.returned (.bool (fs.all A))∧Below w.heap.size w w':=by
 replace HP:=Lib.hid HP
 have EG:=Lib.hid eg
 clear eg
 go_enter Tryz.func58,Tryz.ntmps58
 go_wp2_with fail
 go_loopw [4,7] (fun _ i wr=>∃ k:Nat,k≤fs.length∧i=.int .i64 k∧Hid ((fs.take k).all A=true)∧Below w.heap.size w wr) (fun _ i _=>fs.length - (intOf i).toNat)
 case atStart=>exact ⟨0,Nat.zero_le _,rfl,rfl,by exact zB⟩
 case round =>
  obtain ⟨k,hk,rfl,hall,hB⟩:=hrel
  by_cases hlt:k<fs.length
  ·obtain ⟨b3,o3,rfl,hb3,hc3⟩:∃ b o,d=some ⟨b,o,none⟩∧b<w.heap.size∧(∀ i j,i<fs.length→j<1→w.cell? ⟨b,o+i*1+j,none⟩=some (M8 B fs i j)):=by
    rcases h with h0|h0
    ·omega
    ·exact h0
   have c2:wr.cell? ⟨b3,o3+k,none⟩=some (M8 B fs k 0):=(hB.cell (p:=⟨b3,o3+k,none⟩) hb3).trans (by have:=hc3 k 0 hlt tO;simpa using this)
   clear hc3
   simp only [M8] at c2
   have hmem:fs.getD k 0 ∈ fs:=by simp [List.getD,List.getElem?_eq_getElem hlt]
   generalize hcg:fs.getD k 0=g at c2 hmem
   have HC:=Lib.hid hcg
   clear hcg
   have eg:=EG.out g hmem
   have HM:=Lib.hid hmem
   clear hmem
   have hk0:(0:Int)≤(k:Int):=by omega
   have hk1:(k:Int)<(fs.length:Int):=by omega
   cases hG:A g with
   | true =>
    go_wp2_with (go_at_fn g;refine (HP.out g HM.out wr hB).mono ?_;rintro _ w6 ⟨rfl,hb6⟩;rw [hG])
    go_roundw
    case rel=>exact ⟨k+1,by omega,by go_num,FY hlt HC.out hall.out hG,bT hB hb6⟩
    case measure=>simp [intOf];omega
   | false =>
    go_wp2_with (go_at_fn g;refine (HP.out g HM.out wr hB).mono ?_;rintro _ w6 ⟨rfl,hb6⟩;rw [hG])
    go_ret
    exact ⟨aZ (by symm;rw [List.all_eq_false];exact ⟨g,HM.out,by simp [hG]⟩),bT hB hb6⟩
  ·obtain rfl:k=fs.length:=by omega
   go_wp2
   go_ret
   exact ⟨aZ (by have:=hall.out;rw [List.take_length] at this;rw [this]),hB⟩
def kF (x:Wo) (f:Nat):Bool:=if f=127 then dU x else if f=128 then !x.hands.any (iC x.ch) else if f=109 then decide (((keptIn x.ch).length:Int)≤x.ch.cap) else if f=110 then (!x.hands.any (gy 1) || (((keptIn x.ch).length:Int) == x.ch.cap)) else (!x.hands.any (gy 2) || ((keptIn x.ch).length == 0 && !x.hands.any (gy 1)))
theorem vU:∀ f ∈ [127,128,109,110,111],∀ args w,(callFunc f args).run Tryz.prog w=.ok (.enter f args) w:=by
 intro f hf
 simp only [List.mem_cons,List.not_mem_nil,or_false] at hf;rcases hf with rfl|rfl|rfl|rfl|rfl
 ·exact enters_of Tryz.func127 (by kernel_rfl) rfl
 ·exact enters_of Tryz.func128 (by kernel_rfl) rfl
 ·exact enters_of Tryz.func109 (by kernel_rfl) rfl
 ·exact enters_of Tryz.func110 (by kernel_rfl) rfl
 ·exact enters_of Tryz.func111 (by kernel_rfl) rfl
theorem sZ (x:Wo) (a b d e:Option Addr) (p q r v0 B:Nat) (w:World) (H:LB w B x a b d e p q r v0):∀ f ∈ [127,128,109,110,111],Calls Tryz.prog f #[.agg #[.pointer (some ⟨B,0,none⟩)]] w fun r' w'=>r'=.returned (.bool (kF x f))∧Below w.heap.size w w':=by
 intro f hf
 simp only [List.mem_cons,List.not_mem_nil,or_false] at hf;rcases hf with rfl|rfl|rfl|rfl|rfl
 ·exact uU x a b d e p q r v0 B w H
 ·exact xN x a b d e p q r v0 B w H
 ·exact AV x a b d e p q r v0 B w H
 ·exact xO x a b d e p q r v0 B w H
 ·exact xP x a b d e p q r v0 B w H
theorem D9 (x:Wo) (a b d e:Option Addr) (p q r s:Nat) (w:World) (h:gm w w.heap.size x a b d e) (z:iB x a b d e p q r s) (m:iZ x) :
  Calls Tryz.prog 32 #[zY x a b d e p q r s] w fun r' w'=>r'=.returned (.bool ([127,128].all (kF x)))∧Below w.heap.size w w':=by
 have HH:Hid (∀ W:World,Below w.heap.size w W→hp W w.heap.size=some (.cells #[.int .i64 x.ch.cap,.int .i64 x.ch.sent,.int .i64 x.ch.got,.int .i64 x.ch.fin,.slice a x.ch.cells.length p,.slice b x.ch.words.length q,.slice d x.hands.length r,.slice e x.deals.length s,.int .i64 x.now] 35)→LB W w.heap.size x a b d e p q r s):=fun W hb hz=>⟨hz,h.atQ hb,z,m⟩
 have EG:=Lib.hid vU
 have hsub:∀ f ∈ [127,128],f ∈ [127,128,109,110,111]:=by decide
 clear h z m
 go_enter Tryz.func32,Tryz.ntmps32
 go_wp2_with fail
 refine au w zB fun bb=>?_
 have z0:=heap_alloc_new w (.cells #[.int .i64 x.ch.cap,.int .i64 x.ch.sent,.int .i64 x.ch.got,.int .i64 x.ch.fin,.slice a x.ch.cells.length p,.slice b x.ch.words.length q,.slice d x.hands.length r,.slice e x.deals.length s,.int .i64 x.now] 35)
 refine (nV w.heap.size _).mono ?_
 rintro _ w1 ⟨⟨v,rfl,ho⟩,hb1⟩
 have hB1:Below w.heap.size w w1:=bT bb hb1
 have HL:=HH.out w1 hB1 ((hb1.block w.heap.size (by simp)).trans z0)
 clear HH z0 bb hb1
 obtain ⟨da,dc,rfl,sg,_⟩:=ho.opens
 clear ho
 have HM:=Lib.hid (sW w.heap.size [127,128] (kF x) da dc w1 sg (by decide) (fun f hf=>EG.out f (hsub f hf)) (fun f hf W hb=>sZ x a b d e p q r s w.heap.size W (HL.on hb) f (hsub f hf)))
 clear sg HL EG hsub
 go_wp2_with (go_at_call 58;refine HM.out.mono ?_;rintro _ w2 ⟨rfl,hb2⟩)
 go_ret
 exact ⟨aZ (by simp only [List.all_cons,List.all_nil,Bool.and_true]),bT hB1 hb2⟩
theorem xQ {P:Ha→Bool} {hs:List Ha}:hs.any P=false↔∀ k,k<hs.length→P (hs.getD k Ha.zero)=false:=by
 rw [List.any_eq_false]
 constructor
 ·intro h k hk
  have:=h (hs[k]) (List.getElem_mem hk)
  simpa [List.getD,List.getElem?_eq_getElem hk] using this
 ·intro h y hy
  obtain ⟨k,hk,rfl⟩:=List.getElem_of_mem hy
  have:=h k hk
  simpa [List.getD,List.getElem?_eq_getElem hk] using this
theorem nz (x:Wo):∀ n,fV x n=true↔∀ k,k<n→((dn x (k:Int)).pos == 0 || iU x k)=true
 | 0=>by simp [fV]
 | n+1=>by
  have h:=nz x n
  constructor
  ·intro e k hk
   simp only [fV,Bool.and_eq_true] at e
   by_cases e1:k=n
   ·subst e1;exact e.2
   ·exact h.1 e.1 k tO
  ·intro e
   simp only [fV,Bool.and_eq_true]
   exact ⟨h.2 fun k hk=>e k tO,e n tO⟩
theorem Es (x:Wo) (k:Nat):iC x.ch (x.hands.getD k Ha.zero)=!((dn x (k:Int)).pos == 0 || iU x k):=by
 have e:dn x (k:Int)=x.hands.getD k Ha.zero:=by simp [dn]
 unfold iU iC gI
 rw [e]
 generalize x.hands.getD k Ha.zero=h
 rw [Bool.not_or]
 rfl
theorem Et (x:Wo):(!x.hands.any (iC x.ch))=fV x x.hands.length:=by
 rw [Bool.eq_iff_iff,nz]
 simp only [Bool.not_eq_true']
 rw [xQ]
 constructor
 ·intro h k hk
  have:=h k hk
  rw [Es] at this
  cases hh:((dn x (k:Int)).pos == 0 || iU x k) with
  | true=>rfl
  | false=>rw [hh] at this;exact Bool.noConfusion this
 ·intro h k hk
  rw [Es,h k hk]
  rfl
theorem DC (x:Wo) (a b d e:Option Addr) (p q r s:Nat) (w:World) (h:gm w w.heap.size x a b d e) (z:iB x a b d e p q r s) (m:iZ x) :
  Calls Tryz.prog 32 #[zY x a b d e p q r s] w fun r' w'=>r'=.returned (.bool (quietIn x))∧Below w.heap.size w w':=by
 have h1:=D9 x a b d e p q r s w h z m
 have e1:[127,128].all (kF x)=quietIn x:=by
  simp only [List.all_cons,List.all_nil,Bool.and_true]
  rw [show kF x 127=dU x from rfl,show kF x 128=!x.hands.any (iC x.ch) from rfl,Et]
  rfl
 rw [e1] at h1
 exact h1
end
section
open Go.RowKit
attribute [local simp] aI
attribute [local go_sem ↓] aH aM aN kR ax
attribute [local go_sem] j5
theorem qy {x:Wo} {k:Nat} (h:fV x k=true) (e:((dn x (k:Int)).pos == 0 || iU x k)=true):fV x (k+1)=true:=by simp [fV,h,e]
theorem tu {x:Wo} {k:Nat} (e:((dn x (k:Int)).pos == 0 || iU x k)=false):∀ n,k<n→fV x n=false
 | 0,h=>absurd h (Nat.not_lt_zero _)
 | n+1,h=>by
  by_cases hk:k=n
  ·subst hk;simp [fV,e]
  ·simp [fV,tu e n tO]
theorem mh (x:Wo) (a b d e:Option Addr) (p q r s:Nat) (w:World) (h1:eY w w.heap.size a x.ch.cells) (z1:a=none→p=0) (h2:eZ w w.heap.size b x.ch.words) (z2:b=none→q=0) (h3:Gh w w.heap.size d x.hands) (h4:Jj w w.heap.size e x.deals) (m1:x.ch.cells.length≤1099511627776) (m3:x.hands.length≤1099511627776) (m4:x.deals.length≤1099511627776) :
  Calls Tryz.prog 33 #[zY x a b d e p q r s] w fun r' w'=>r'=.returned (.bool (quietIn x))∧Below w.heap.size w w':=by
 have H1:=Lib.hid h1
 have H2:=Lib.hid h2
 have H3:=Lib.hid h3
 have H4:=Lib.hid h4
 have Z1:=Lib.hid z1
 have Z2:=Lib.hid z2
 clear h1 h2 h3 h4 z1 z2
 cases hk:dU x with
 | false =>
  have e0:quietIn x=false:=by simp [quietIn,hk]
  rw [e0]
  go_enter Tryz.func33,Tryz.ntmps33
  go_wp2_with fail;refine au w zB fun bb=>?_;refine (jT x a b d e p q r s _ (aT H1 bb) (aT H2 bb) (aT H3 bb) (aT H4 bb) m3 m4).mono ?_;rintro _ w1 ⟨rfl,ag⟩;have aV:Below w.heap.size w w1:=bT bb ag;have ak:=ag.size;(try simp at ak);have zz:=hQ ag (b:=w.heap.size);(try simp [go_sem] at zz);(try clear bG di dC bV);have bG:=zz;clear zz;obtain ⟨di,dC,bV⟩:=bO bG;clear ag bb
  rw [hk]
  go_wp2
  go_ret
  exact ⟨rfl,by exact zB⟩
 | true =>
  have e0:quietIn x=fV x x.hands.length:=by simp [quietIn,hk]
  rw [e0]
  go_enter Tryz.func33,Tryz.ntmps33
  go_wp2_with fail;refine au w zB fun bb=>?_;refine (jT x a b d e p q r s _ (aT H1 bb) (aT H2 bb) (aT H3 bb) (aT H4 bb) m3 m4).mono ?_;rintro _ w1 ⟨rfl,ag⟩;have aV:Below w.heap.size w w1:=bT bb ag;have ak:=ag.size;(try simp at ak);have zz:=hQ ag (b:=w.heap.size);(try simp [go_sem] at zz);(try clear bG di dC bV);have bG:=zz;clear zz;obtain ⟨di,dC,bV⟩:=bO bG;clear ag bb
  rw [hk]
  have hB1:Below w.heap.size w w1:=by exact zB
  go_wp2
  go_loopw [3] (fun i wr=>∃ k:Nat,k≤x.hands.length∧i=.int .i64 k∧Hid (fV x k=true)∧hp wr w.heap.size=some (.cells #[.int .i64 x.ch.cap,.int .i64 x.ch.sent,.int .i64 x.ch.got,.int .i64 x.ch.fin,.slice a x.ch.cells.length p,.slice b x.ch.words.length q,.slice d x.hands.length r,.slice e x.deals.length s,.int .i64 x.now] 35)∧w.heap.size<wr.heap.size∧Below w.heap.size w wr) (fun i _=>x.hands.length - (intOf i).toNat)
  case atStart=>exact ⟨0,Nat.zero_le _,rfl,rfl,by simp [go_sem, *],by omega,hB1⟩
  case round =>
   obtain ⟨k,hk,rfl,hall,bG,bV,hB⟩:=hrel
   clear di dC
   have di:∀ o,wr.cell? ⟨w.heap.size,o,none⟩=_:=fun o=>cell_of_row wr w.heap.size o _ _ _ bG
   have dC:∀ o,wr.frozen? ⟨w.heap.size,o,none⟩=false:=ny bG
   by_cases hlt:k<x.hands.length
   ·have hk0:(0:Int)≤(k:Int):=by omega
    have hk1:(k:Int)<(x.hands.length:Int):=by omega
    have PP:=nR x k hlt a b d e p q r s wr (H1.out.below hB |>.more hB.size) Z1.out (H2.out.below hB |>.more hB.size) Z2.out (H3.out.below hB |>.more hB.size) (H4.out.below hB |>.more hB.size) m1 m3 m4
    obtain ⟨b3,o3,rfl,hb3,hc3⟩:∃ b o,d=some ⟨b,o,none⟩∧b<w.heap.size∧(∀ i j,i<x.hands.length→j<14→w.cell? ⟨b,o+i*14+j,none⟩=some (gB x.hands i j)):=by
     rcases H3.out with h0|h0
     ·omega
     ·exact h0
    have c0:wr.cell? ⟨b3,o3+k*14,none⟩=some (.int .i64 (dn x (k:Int)).pos):=(hB.cell (p:=⟨b3,o3+k*14,none⟩) hb3).trans ((hc3 k 0 hlt tO).trans (by simp [gB,dn,aa,Array.getD]))
    clear hc3
    by_cases hp0:(dn x (k:Int)).pos=0
    ·go_wp2
     go_roundw
     case rel=>exact ⟨k+1,by omega,by go_num,qy hall.out (by simp [hp0]),bG,by omega,hB⟩
     case measure=>simp [intOf];omega
    ·cases hpk:iU x k with
     | true =>
      rw [hpk] at PP
      go_wp2_with fail;refine au w zB fun bb=>?_;refine au wr zB fun bk=>?_;refine (PP).mono ?_;rintro _ w5 ⟨rfl,bU⟩;have mE:Below w.heap.size w w5:=bT bb bU;have gK:=bU.size;(try simp at gK);have zz:=hQ bU (b:=w.heap.size);(first|simp [go_sem,bG,bV] at zz|simp [go_sem] at zz|skip);(try clear bG di dC bV);have bG:=zz;clear zz;obtain ⟨di,dC,bV⟩:=bO bG;have gZ:Below wr.heap.size wr w5:=bT bk bU;clear bU bb bk
      have LC:Below w.heap.size w w5:=bT hB gZ
      go_wp2
      go_roundw
      case rel=>exact ⟨k+1,by omega,by go_num,qy hall.out (by simp [hpk]),bG,by omega,LC⟩
      case measure=>simp [intOf];omega
     | false =>
      rw [hpk] at PP
      go_wp2_with fail;refine au w zB fun bb=>?_;refine au wr zB fun bk=>?_;refine (PP).mono ?_;rintro _ w5 ⟨rfl,bU⟩;have mE:Below w.heap.size w w5:=bT bb bU;have gK:=bU.size;(try simp at gK);have zz:=hQ bU (b:=w.heap.size);(first|simp [go_sem,bG,bV] at zz|simp [go_sem] at zz|skip);(try clear bG di dC bV);have bG:=zz;clear zz;obtain ⟨di,dC,bV⟩:=bO bG;have gZ:Below wr.heap.size wr w5:=bT bk bU;clear bU bb bk
      have LC:Below w.heap.size w w5:=bT hB gZ
      go_wp2
      go_ret
      exact ⟨aZ (tu (by simp [hp0,hpk]) _ hlt).symm,LC⟩
   ·have:k=x.hands.length:=by omega
    subst this
    go_wp2
    go_ret
    exact ⟨aZ (by have:=hall.out;exact this.symm),hB⟩
end
section
open Go.RowKit
attribute [local simp] aI
attribute [local go_sem ↓] IZ LF Ja Eo AO
theorem pR (x:Wo) (t:Bool) (a b d e:Option Addr) (p1 p2 p3 p4:Nat) (w:World) (h:gm w w.heap.size x a b d e) (m:x.ch.cells.length≤maxLen∧x.ch.words.length≤maxLen∧x.hands.length≤maxLen∧x.deals.length≤maxLen)
  (hs:iZ x→∀ (a b d e:Option Addr) (p1 p2 p3 p4:Nat) (w:World),gm w w.heap.size x a b d e→iB x a b d e p1 p2 p3 p4→Calls Tryz.prog 33 #[.agg (dP x (.slice a x.ch.cells.length p1) (.slice b x.ch.words.length p2) (.slice d x.hands.length p3) (.slice e x.deals.length p4))] w fun r' w'=>r'=.returned (.bool t)∧Below w.heap.size w w')
  (hi:iZ x→∀ (a b d e:Option Addr) (p1 p2 p3 p4:Nat) (w:World),gm w w.heap.size x a b d e→iB x a b d e p1 p2 p3 p4→Calls Tryz.prog 32 #[.agg (dP x (.slice a x.ch.cells.length p1) (.slice b x.ch.words.length p2) (.slice d x.hands.length p3) (.slice e x.deals.length p4))] w fun r' w'=>r'=.returned (.bool t)∧Below w.heap.size w w') :
  Calls Tryz.prog 7 #[.agg (dP x (.slice a x.ch.cells.length p1) (.slice b x.ch.words.length p2) (.slice d x.hands.length p3) (.slice e x.deals.length p4))] w fun r w'=>r=.returned (.bool true)∧Below w.heap.size w w':=by
 have H:=Lib.hid h
 have M:=Lib.hid m
 have HS:=Lib.hid hs
 have HI:=Lib.hid hi
 clear h m hs hi
 go_enter Tryz.func7,Tryz.ntmps7
 go_wp2_with fail
 refine (ni x a b d e p1 p2 p3 p4 1048576 _ tO tO M.out.1 M.out.2.1 M.out.2.2.1 M.out.2.2.2).mono ?_
 rintro _ w1 ⟨⟨z,rfl,hz⟩,ag⟩
 have hB1:Below w.heap.size w w1:=bT zB ag
 have PG:Below w.heap.size w w1:=bT zB ag
 have ak:=ag.size;(try (simp at ak));have zz:=hQ ag (b:=w.heap.size);(first|(simp [go_sem,bG,bV] at zz)|(simp [go_sem] at zz));(try clear di dC);(try clear bG);have bG:=zz;clear zz;(try clear bV);obtain ⟨di,dC,bV⟩:=bO bG
 clear ag
 by_cases hn:z<0
 ·go_wp2
  go_ret
  exact ⟨rfl,hB1⟩
 have m:=hz tO
 clear hz
 replace HS:=Lib.hid (HS.out m)
 replace HI:=Lib.hid (HI.out m)
 go_wp2_with fail
 refine (iL x a b d e p1 p2 p3 p4 _ (((H.out.below zB).more tS)) m).mono ?_
 rintro _ w2 ⟨⟨g1,g2,g3,g4,rfl,G⟩,hbw2⟩
 have hB2:Below w.heap.size w w2:=bT zB hbw2
 have hC2:Below w1.heap.size w1 w2:=bT zB hbw2
 have aR:=hbw2.size;(try (simp at aR));have zz:=hQ hbw2 (b:=w.heap.size);(first|(simp [go_sem,bG,bV] at zz)|(simp [go_sem] at zz));(try clear di dC);(try clear bG);have bG:=zz;clear zz;(try clear bV);obtain ⟨di,dC,bV⟩:=bO bG
 clear hbw2
 go_wp2_with fail
 refine (HS.out _ _ _ _ _ _ _ _ _ ((G.below (Below.refl _ _) (Nat.le_refl _)).seg) (sV _ _ _ _ _ _ _ _ _)).mono ?_
 rintro _ w3 ⟨rfl,aC⟩
 have hB3:Below w.heap.size w w3:=bT zB aC
 have PH:Below w2.heap.size w2 w3:=bT zB aC
 have bM:=aC.size;(try (simp at bM));have zz:=hQ aC (b:=w.heap.size);(first|(simp [go_sem,bG,bV] at zz)|(simp [go_sem] at zz));(try clear di dC);(try clear bG);have bG:=zz;clear zz;(try clear bV);obtain ⟨di,dC,bV⟩:=bO bG
 clear aC
 go_wp2_with fail
 refine (iL x a b d e p1 p2 p3 p4 _ (((H.out.below zB).more tS)) m).mono ?_
 rintro _ w4 ⟨⟨y1,y2,y3,y4,rfl,Y⟩,d9⟩
 have hB4:Below w.heap.size w w4:=bT zB d9
 have Pp:Below w3.heap.size w3 w4:=bT zB d9
 have gu:=d9.size;(try (simp at gu));have zz:=hQ d9 (b:=w.heap.size);(first|(simp [go_sem,bG,bV] at zz)|(simp [go_sem] at zz));(try clear di dC);(try clear bG);have bG:=zz;clear zz;(try clear bV);obtain ⟨di,dC,bV⟩:=bO bG
 clear d9
 obtain ⟨X0,A0⟩:=Y.new
 clear Y
 have hq4:=gu
 go_upto_region 7 with fail
 generalize kr:World.alloc w4 _=w5
 have eB:hp w5 w4.heap.size=some (.cells (dP x (.slice (some ⟨y1,0,none⟩) x.ch.cells.length x.ch.cells.length) (.slice (some ⟨y2,0,none⟩) x.ch.words.length x.ch.words.length) (.slice (some ⟨y3,0,none⟩) x.hands.length x.hands.length) (.slice (some ⟨y4,0,none⟩) x.deals.length x.deals.length)) 35):=by rw [← kr];exact heap_alloc_new _ _
 have jA:Below w4.heap.size w4 w5:=by rw [← kr];exact bE _ _
 clear kr
 have LC:Below w.heap.size w w5:=bT hB4 jA
 have gK:=jA.size
 obtain ⟨gW,gX,fH⟩:=bO eB
 replace X0:=X0.below jA
 replace bG:=fC bG jA
 clear di dC bV
 obtain ⟨di,dC,bV⟩:=bO bG
 go_wp2_with fail
 refine (HI.out _ _ _ _ _ _ _ _ _ (X0.segAt zB) (sV _ _ _ _ _ _ _ _ _)).mono ?_
 rintro _ w6 ⟨rfl,fZ⟩
 have Eh:Below w.heap.size w w6:=bT zB fZ
 have MU:Below w5.heap.size w5 w6:=bT zB fZ
 have rY:=fZ.size;(try (simp at rY));have zz:=hQ fZ (b:=w.heap.size);(first|(simp [go_sem,bG,bV] at zz)|(simp [go_sem] at zz));(try clear di dC);(try clear bG);have bG:=zz;clear zz;(try clear bV);obtain ⟨di,dC,bV⟩:=bO bG;have zz:=hQ fZ (b:=w4.heap.size);(first|(simp [go_sem,eB,fH] at zz)|(simp [go_sem] at zz));(try clear gW gX);(try clear eB);have eB:=zz;clear zz;(try clear fH);obtain ⟨gW,gX,fH⟩:=bO eB
 clear fZ
 replace X0:=X0.below MU
 go_upto_region 10 with fail
 refine bJ [[],[],[1],[0,1,2],[0,1,2,3]] [22,23,24,25,26] (fun l s wx=>(Below w6.heap.size w6 wx)∧(l 0=true→s 22=.agg (dP x (.slice (some ⟨y1,0,none⟩) x.ch.cells.length x.ch.cells.length) (.slice (some ⟨y2,0,none⟩) x.ch.words.length x.ch.words.length) (.slice (some ⟨y3,0,none⟩) x.hands.length x.hands.length) (.slice (some ⟨y4,0,none⟩) x.deals.length x.deals.length)))∧(l 1=true→s 23=.agg (dP x (.slice a x.ch.cells.length p1) (.slice b x.ch.words.length p2) (.slice d x.hands.length p3) (.slice e x.deals.length p4)))∧(l 2=true→∃ g1 g2 g3 g4:Nat,s 24=.agg (dP x (.slice (some ⟨g1,0,none⟩) x.ch.cells.length x.ch.cells.length) (.slice (some ⟨g2,0,none⟩) x.ch.words.length x.ch.words.length) (.slice (some ⟨g3,0,none⟩) x.hands.length x.hands.length) (.slice (some ⟨g4,0,none⟩) x.deals.length x.deals.length))∧gJ wx w6.heap.size x g1 g2 g3 g4)∧(l 3=true→s 25=.bool true)∧(l 4=true→s 26=.bool false)) (by kernel_rfl) (by kernel_rfl) (by kernel_rfl) (fun s=>by (simp only [fill,gp,List.setIfInBounds_toArray,List.set_cons_zero,List.set_cons_succ];rfl)) (fun s=>⟨(Below.refl _ _).drew,fun h=>absurd h Bool.false_ne_true,fun h=>absurd h Bool.false_ne_true,fun h=>absurd h Bool.false_ne_true,fun h=>absurd h Bool.false_ne_true,fun h=>absurd h Bool.false_ne_true⟩) ?_ ?_
 refine ⟨?_,?_,?_,?_,?_,trivial⟩;iterate 5 (intro l s wx hl hd hn hf K hK;rotate_left)
 ·intro l s w7 hall hf
  have ec:=hf.2.2.2.2.2 (hall 4 rfl)
  have Dt:Below w6.heap.size w6 w7:=hf.1
  simp only [ec]
  clear ec hf hall
  have vZ:Below w.heap.size w w7:=bT Eh Dt
  have Mo:=Dt.size
  replace X0:=X0.below Dt
  replace bG:=fC bG Dt
  clear di dC bV
  obtain ⟨di,dC,bV⟩:=bO bG
  replace eB:=fC eB Dt
  clear gW gX fH
  obtain ⟨gW,gX,fH⟩:=bO eB
  go_wp2
  go_ret
  exact ⟨rfl,vZ⟩
 ·have hB:=hf.out.1
  have z:=fC eB hB
  go_simp
  refine hK.out (upd s 22 (.agg (dP x (.slice (some ⟨y1,0,none⟩) x.ch.cells.length x.ch.cells.length) (.slice (some ⟨y2,0,none⟩) x.ch.words.length x.ch.words.length) (.slice (some ⟨y3,0,none⟩) x.hands.length x.hands.length) (.slice (some ⟨y4,0,none⟩) x.deals.length x.deals.length)))) _ _ (by simp [ae] <;> rfl) ⟨hf.out.1,fun _=>rfl,fun h=>(hf.out.2.2.1 h),fun h=>(hf.out.2.2.2.1 h),fun h=>absurd h (by rw [show upd l 0 true 3=l 3 from rfl,hn 3 rfl];exact Bool.false_ne_true),fun h=>absurd h (by rw [show upd l 0 true 4=l 4 from rfl,hn 4 rfl];exact Bool.false_ne_true)⟩
 ·have hB:=hf.out.1
  have z:=fC bG hB
  go_simp
  refine hK.out (upd s 23 (.agg (dP x (.slice a x.ch.cells.length p1) (.slice b x.ch.words.length p2) (.slice d x.hands.length p3) (.slice e x.deals.length p4)))) _ _ (by simp [ae] <;> rfl) ⟨hf.out.1,fun h=>(hf.out.2.1 h),fun _=>rfl,fun h=>absurd h (by rw [show upd l 1 true 2=l 2 from rfl,hn 2 rfl];exact Bool.false_ne_true),fun h=>absurd h (by rw [show upd l 1 true 3=l 3 from rfl,hn 3 rfl];exact Bool.false_ne_true),fun h=>absurd h (by rw [show upd l 1 true 4=l 4 from rfl,hn 4 rfl];exact Bool.false_ne_true)⟩
 ·have e1:=(hf.out.2.2.1 (hd 1 rfl))
  have hB:=hf.out.1
  go_simp
  go_at_call 39
  refine (iL x a b d e p1 p2 p3 p4 _ (((H.out.below (bT Eh hB))).more (bT Eh hB).size) m).mono ?_
  rintro _ wy ⟨⟨g1,g2,g3,g4,rfl,G⟩,hE⟩
  refine hK.out (upd s 24 (.agg (dP x (.slice (some ⟨g1,0,none⟩) x.ch.cells.length x.ch.cells.length) (.slice (some ⟨g2,0,none⟩) x.ch.words.length x.ch.words.length) (.slice (some ⟨g3,0,none⟩) x.hands.length x.hands.length) (.slice (some ⟨g4,0,none⟩) x.deals.length x.deals.length)))) _ _ (by simp [ae,e1] <;> rfl) ⟨bT hf.out.1 hE,fun h=>(hf.out.2.1 h),fun h=>(hf.out.2.2.1 h),fun _=>⟨g1,g2,g3,g4,rfl,gJ.lo' G hB.size⟩,fun h=>absurd h (by rw [show upd l 2 true 3=l 3 from rfl,hn 3 rfl];exact Bool.false_ne_true),fun h=>absurd h (by rw [show upd l 2 true 4=l 4 from rfl,hn 4 rfl];exact Bool.false_ne_true)⟩
 ·have e0:=(hf.out.2.1 (hd 0 rfl))
  have hB:=hf.out.1
  obtain ⟨g1,g2,g3,g4,e2,G⟩:=(hf.out.2.2.2.1 (hd 2 rfl))
  go_simp
  go_at_call 41
  refine (ng x _ _ _ _ _ _ _ _ _ _ _ _ _ _ _ _ _ (X0.segAt hB) (gJ.seg G) m).mono ?_
  rintro _ wy ⟨rfl,hE⟩
  refine hK.out (upd s 25 (.bool true)) _ _ (by simp [ae,e0,e2] <;> rfl) ⟨bT hf.out.1 hE,fun h=>(hf.out.2.1 h),fun h=>(hf.out.2.2.1 h),fun h=>(let ⟨g1,g2,g3,g4,e,R⟩:=(hf.out.2.2.2.1 h);⟨g1,g2,g3,g4,e,gJ.belowS R hE⟩),fun _=>rfl,fun h=>absurd h (by rw [show upd l 3 true 4=l 4 from rfl,hn 4 rfl];exact Bool.false_ne_true)⟩
 ·have e3:=(hf.out.2.2.2.2.1 (hd 3 rfl))
  have hB:=hf.out.1
  go_simp
  refine hK.out (upd s 26 (.bool false)) _ _ (by simp [ae,e3] <;> rfl) ⟨hf.out.1,fun h=>(hf.out.2.1 h),fun h=>(hf.out.2.2.1 h),fun h=>(hf.out.2.2.2.1 h),fun h=>(hf.out.2.2.2.2.1 h),fun _=>rfl⟩
theorem qG (x:Wo) (t:Bool) (a b d e:Option Addr) (p1 p2 p3 p4:Nat) (w:World) (h:gm w w.heap.size x a b d e) (m:x.ch.cells.length≤maxLen∧x.ch.words.length≤maxLen∧x.hands.length≤maxLen∧x.deals.length≤maxLen)
  (hs:iZ x→∀ (a b d e:Option Addr) (p1 p2 p3 p4:Nat) (w:World),gm w w.heap.size x a b d e→iB x a b d e p1 p2 p3 p4→Calls Tryz.prog 34 #[.agg (dP x (.slice a x.ch.cells.length p1) (.slice b x.ch.words.length p2) (.slice d x.hands.length p3) (.slice e x.deals.length p4))] w fun r' w'=>r'=.returned (.bool t)∧Below w.heap.size w w')
  (hi:iZ x→∀ (a b d e:Option Addr) (p1 p2 p3 p4:Nat) (w:World),gm w w.heap.size x a b d e→iB x a b d e p1 p2 p3 p4→Calls Tryz.prog 18 #[.agg (dP x (.slice a x.ch.cells.length p1) (.slice b x.ch.words.length p2) (.slice d x.hands.length p3) (.slice e x.deals.length p4))] w fun r' w'=>r'=.returned (.bool t)∧Below w.heap.size w w') :
  Calls Tryz.prog 8 #[.agg (dP x (.slice a x.ch.cells.length p1) (.slice b x.ch.words.length p2) (.slice d x.hands.length p3) (.slice e x.deals.length p4))] w fun r w'=>r=.returned (.bool true)∧Below w.heap.size w w':=by
 have H:=Lib.hid h
 have M:=Lib.hid m
 have HS:=Lib.hid hs
 have HI:=Lib.hid hi
 clear h m hs hi
 go_enter Tryz.func8,Tryz.ntmps8
 go_wp2_with fail
 refine (ni x a b d e p1 p2 p3 p4 1048576 _ tO tO M.out.1 M.out.2.1 M.out.2.2.1 M.out.2.2.2).mono ?_
 rintro _ w1 ⟨⟨z,rfl,hz⟩,ag⟩
 have hB1:Below w.heap.size w w1:=bT zB ag
 have PG:Below w.heap.size w w1:=bT zB ag
 have ak:=ag.size;(try (simp at ak));have zz:=hQ ag (b:=w.heap.size);(first|(simp [go_sem,bG,bV] at zz)|(simp [go_sem] at zz));(try clear di dC);(try clear bG);have bG:=zz;clear zz;(try clear bV);obtain ⟨di,dC,bV⟩:=bO bG
 clear ag
 by_cases hn:z<0
 ·go_wp2
  go_ret
  exact ⟨rfl,hB1⟩
 have m:=hz tO
 clear hz
 replace HS:=Lib.hid (HS.out m)
 replace HI:=Lib.hid (HI.out m)
 go_wp2_with fail
 refine (iL x a b d e p1 p2 p3 p4 _ (((H.out.below zB).more tS)) m).mono ?_
 rintro _ w2 ⟨⟨g1,g2,g3,g4,rfl,G⟩,hbw2⟩
 have hB2:Below w.heap.size w w2:=bT zB hbw2
 have hC2:Below w1.heap.size w1 w2:=bT zB hbw2
 have aR:=hbw2.size;(try (simp at aR));have zz:=hQ hbw2 (b:=w.heap.size);(first|(simp [go_sem,bG,bV] at zz)|(simp [go_sem] at zz));(try clear di dC);(try clear bG);have bG:=zz;clear zz;(try clear bV);obtain ⟨di,dC,bV⟩:=bO bG
 clear hbw2
 go_wp2_with fail
 refine (HS.out _ _ _ _ _ _ _ _ _ ((G.below (Below.refl _ _) (Nat.le_refl _)).seg) (sV _ _ _ _ _ _ _ _ _)).mono ?_
 rintro _ w3 ⟨rfl,aC⟩
 have hB3:Below w.heap.size w w3:=bT zB aC
 have PH:Below w2.heap.size w2 w3:=bT zB aC
 have bM:=aC.size;(try (simp at bM));have zz:=hQ aC (b:=w.heap.size);(first|(simp [go_sem,bG,bV] at zz)|(simp [go_sem] at zz));(try clear di dC);(try clear bG);have bG:=zz;clear zz;(try clear bV);obtain ⟨di,dC,bV⟩:=bO bG
 clear aC
 go_wp2_with fail
 refine (iL x a b d e p1 p2 p3 p4 _ (((H.out.below zB).more tS)) m).mono ?_
 rintro _ w4 ⟨⟨y1,y2,y3,y4,rfl,Y⟩,d9⟩
 have hB4:Below w.heap.size w w4:=bT zB d9
 have Pp:Below w3.heap.size w3 w4:=bT zB d9
 have gu:=d9.size;(try (simp at gu));have zz:=hQ d9 (b:=w.heap.size);(first|(simp [go_sem,bG,bV] at zz)|(simp [go_sem] at zz));(try clear di dC);(try clear bG);have bG:=zz;clear zz;(try clear bV);obtain ⟨di,dC,bV⟩:=bO bG
 clear d9
 obtain ⟨X0,A0⟩:=Y.new
 clear Y
 have hq4:=gu
 go_upto_region 7 with fail
 generalize kr:World.alloc w4 _=w5
 have eB:hp w5 w4.heap.size=some (.cells (dP x (.slice (some ⟨y1,0,none⟩) x.ch.cells.length x.ch.cells.length) (.slice (some ⟨y2,0,none⟩) x.ch.words.length x.ch.words.length) (.slice (some ⟨y3,0,none⟩) x.hands.length x.hands.length) (.slice (some ⟨y4,0,none⟩) x.deals.length x.deals.length)) 35):=by rw [← kr];exact heap_alloc_new _ _
 have jA:Below w4.heap.size w4 w5:=by rw [← kr];exact bE _ _
 clear kr
 have LC:Below w.heap.size w w5:=bT hB4 jA
 have gK:=jA.size
 obtain ⟨gW,gX,fH⟩:=bO eB
 replace X0:=X0.below jA
 replace bG:=fC bG jA
 clear di dC bV
 obtain ⟨di,dC,bV⟩:=bO bG
 go_wp2_with fail
 refine (HI.out _ _ _ _ _ _ _ _ _ (X0.segAt zB) (sV _ _ _ _ _ _ _ _ _)).mono ?_
 rintro _ w6 ⟨rfl,fZ⟩
 have Eh:Below w.heap.size w w6:=bT zB fZ
 have MU:Below w5.heap.size w5 w6:=bT zB fZ
 have rY:=fZ.size;(try (simp at rY));have zz:=hQ fZ (b:=w.heap.size);(first|(simp [go_sem,bG,bV] at zz)|(simp [go_sem] at zz));(try clear di dC);(try clear bG);have bG:=zz;clear zz;(try clear bV);obtain ⟨di,dC,bV⟩:=bO bG;have zz:=hQ fZ (b:=w4.heap.size);(first|(simp [go_sem,eB,fH] at zz)|(simp [go_sem] at zz));(try clear gW gX);(try clear eB);have eB:=zz;clear zz;(try clear fH);obtain ⟨gW,gX,fH⟩:=bO eB
 clear fZ
 replace X0:=X0.below MU
 go_upto_region 10 with fail
 refine bJ [[],[],[1],[0,1,2],[0,1,2,3]] [22,23,24,25,26] (fun l s wx=>(Below w6.heap.size w6 wx)∧(l 0=true→s 22=.agg (dP x (.slice (some ⟨y1,0,none⟩) x.ch.cells.length x.ch.cells.length) (.slice (some ⟨y2,0,none⟩) x.ch.words.length x.ch.words.length) (.slice (some ⟨y3,0,none⟩) x.hands.length x.hands.length) (.slice (some ⟨y4,0,none⟩) x.deals.length x.deals.length)))∧(l 1=true→s 23=.agg (dP x (.slice a x.ch.cells.length p1) (.slice b x.ch.words.length p2) (.slice d x.hands.length p3) (.slice e x.deals.length p4)))∧(l 2=true→∃ g1 g2 g3 g4:Nat,s 24=.agg (dP x (.slice (some ⟨g1,0,none⟩) x.ch.cells.length x.ch.cells.length) (.slice (some ⟨g2,0,none⟩) x.ch.words.length x.ch.words.length) (.slice (some ⟨g3,0,none⟩) x.hands.length x.hands.length) (.slice (some ⟨g4,0,none⟩) x.deals.length x.deals.length))∧gJ wx w6.heap.size x g1 g2 g3 g4)∧(l 3=true→s 25=.bool true)∧(l 4=true→s 26=.bool false)) (by kernel_rfl) (by kernel_rfl) (by kernel_rfl) (fun s=>by (simp only [fill,gp,List.setIfInBounds_toArray,List.set_cons_zero,List.set_cons_succ];rfl)) (fun s=>⟨(Below.refl _ _).drew,fun h=>absurd h Bool.false_ne_true,fun h=>absurd h Bool.false_ne_true,fun h=>absurd h Bool.false_ne_true,fun h=>absurd h Bool.false_ne_true,fun h=>absurd h Bool.false_ne_true⟩) ?_ ?_
 refine ⟨?_,?_,?_,?_,?_,trivial⟩;iterate 5 (intro l s wx hl hd hn hf K hK;rotate_left)
 ·intro l s w7 hall hf
  have ec:=hf.2.2.2.2.2 (hall 4 rfl)
  have Dt:Below w6.heap.size w6 w7:=hf.1
  simp only [ec]
  clear ec hf hall
  have vZ:Below w.heap.size w w7:=bT Eh Dt
  have Mo:=Dt.size
  replace X0:=X0.below Dt
  replace bG:=fC bG Dt
  clear di dC bV
  obtain ⟨di,dC,bV⟩:=bO bG
  replace eB:=fC eB Dt
  clear gW gX fH
  obtain ⟨gW,gX,fH⟩:=bO eB
  go_wp2
  go_ret
  exact ⟨rfl,vZ⟩
 ·have hB:=hf.out.1
  have z:=fC eB hB
  go_simp
  refine hK.out (upd s 22 (.agg (dP x (.slice (some ⟨y1,0,none⟩) x.ch.cells.length x.ch.cells.length) (.slice (some ⟨y2,0,none⟩) x.ch.words.length x.ch.words.length) (.slice (some ⟨y3,0,none⟩) x.hands.length x.hands.length) (.slice (some ⟨y4,0,none⟩) x.deals.length x.deals.length)))) _ _ (by simp [ae] <;> rfl) ⟨hf.out.1,fun _=>rfl,fun h=>(hf.out.2.2.1 h),fun h=>(hf.out.2.2.2.1 h),fun h=>absurd h (by rw [show upd l 0 true 3=l 3 from rfl,hn 3 rfl];exact Bool.false_ne_true),fun h=>absurd h (by rw [show upd l 0 true 4=l 4 from rfl,hn 4 rfl];exact Bool.false_ne_true)⟩
 ·have hB:=hf.out.1
  have z:=fC bG hB
  go_simp
  refine hK.out (upd s 23 (.agg (dP x (.slice a x.ch.cells.length p1) (.slice b x.ch.words.length p2) (.slice d x.hands.length p3) (.slice e x.deals.length p4)))) _ _ (by simp [ae] <;> rfl) ⟨hf.out.1,fun h=>(hf.out.2.1 h),fun _=>rfl,fun h=>absurd h (by rw [show upd l 1 true 2=l 2 from rfl,hn 2 rfl];exact Bool.false_ne_true),fun h=>absurd h (by rw [show upd l 1 true 3=l 3 from rfl,hn 3 rfl];exact Bool.false_ne_true),fun h=>absurd h (by rw [show upd l 1 true 4=l 4 from rfl,hn 4 rfl];exact Bool.false_ne_true)⟩
 ·have e1:=(hf.out.2.2.1 (hd 1 rfl))
  have hB:=hf.out.1
  go_simp
  go_at_call 39
  refine (iL x a b d e p1 p2 p3 p4 _ (((H.out.below (bT Eh hB))).more (bT Eh hB).size) m).mono ?_
  rintro _ wy ⟨⟨g1,g2,g3,g4,rfl,G⟩,hE⟩
  refine hK.out (upd s 24 (.agg (dP x (.slice (some ⟨g1,0,none⟩) x.ch.cells.length x.ch.cells.length) (.slice (some ⟨g2,0,none⟩) x.ch.words.length x.ch.words.length) (.slice (some ⟨g3,0,none⟩) x.hands.length x.hands.length) (.slice (some ⟨g4,0,none⟩) x.deals.length x.deals.length)))) _ _ (by simp [ae,e1] <;> rfl) ⟨bT hf.out.1 hE,fun h=>(hf.out.2.1 h),fun h=>(hf.out.2.2.1 h),fun _=>⟨g1,g2,g3,g4,rfl,gJ.lo' G hB.size⟩,fun h=>absurd h (by rw [show upd l 2 true 3=l 3 from rfl,hn 3 rfl];exact Bool.false_ne_true),fun h=>absurd h (by rw [show upd l 2 true 4=l 4 from rfl,hn 4 rfl];exact Bool.false_ne_true)⟩
 ·have e0:=(hf.out.2.1 (hd 0 rfl))
  have hB:=hf.out.1
  obtain ⟨g1,g2,g3,g4,e2,G⟩:=(hf.out.2.2.2.1 (hd 2 rfl))
  go_simp
  go_at_call 41
  refine (ng x _ _ _ _ _ _ _ _ _ _ _ _ _ _ _ _ _ (X0.segAt hB) (gJ.seg G) m).mono ?_
  rintro _ wy ⟨rfl,hE⟩
  refine hK.out (upd s 25 (.bool true)) _ _ (by simp [ae,e0,e2] <;> rfl) ⟨bT hf.out.1 hE,fun h=>(hf.out.2.1 h),fun h=>(hf.out.2.2.1 h),fun h=>(let ⟨g1,g2,g3,g4,e,R⟩:=(hf.out.2.2.2.1 h);⟨g1,g2,g3,g4,e,gJ.belowS R hE⟩),fun _=>rfl,fun h=>absurd h (by rw [show upd l 3 true 4=l 4 from rfl,hn 4 rfl];exact Bool.false_ne_true)⟩
 ·have e3:=(hf.out.2.2.2.2.1 (hd 3 rfl))
  have hB:=hf.out.1
  go_simp
  refine hK.out (upd s 26 (.bool false)) _ _ (by simp [ae,e3] <;> rfl) ⟨hf.out.1,fun h=>(hf.out.2.1 h),fun h=>(hf.out.2.2.1 h),fun h=>(hf.out.2.2.2.1 h),fun h=>(hf.out.2.2.2.2.1 h),fun _=>rfl⟩
end
section
open Go.ChangeShapes Go.WideShapes Go.ChangeAt Go.RowKit
theorem FZ (x:Wo) (m:iZ x) (a b d e:Option Addr) (p q r s:Nat) (w:World) (h:gm w w.heap.size x a b d e) (z:iB x a b d e p q r s) :
  Calls Tryz.prog 33 #[.agg (dP x (.slice a x.ch.cells.length p) (.slice b x.ch.words.length q) (.slice d x.hands.length r) (.slice e x.deals.length s))] w fun r' w'=>r'=.returned (.bool (quietIn x))∧Below w.heap.size w w' :=
 mh x a b d e p q r s w h.1 z.1 h.2.1 z.2.1 h.2.2.1 h.2.2.2 (by have:=m.1;omega) (by have:=m.2.2.1;omega) (by have:=m.2.2.2;omega)
theorem Ga (x:Wo) (m:iZ x) (a b d e:Option Addr) (p q r s:Nat) (w:World) (h:gm w w.heap.size x a b d e) (z:iB x a b d e p q r s) :
  Calls Tryz.prog 32 #[.agg (dP x (.slice a x.ch.cells.length p) (.slice b x.ch.words.length q) (.slice d x.hands.length r) (.slice e x.deals.length s))] w fun r' w'=>r'=.returned (.bool (quietIn x))∧Below w.heap.size w w' :=
 DC x a b d e p q r s w h z m
namespace FnExactQuietIn
theorem lifted (os:Os) (started:os.Started) (H:Type) (enc:TypeId × Value→H) :
  ReturnsInHanded {} Tryz.checked os 7 .any (Rows.fnExactQuietInSpec.pre6 enc Tryz.prog Tryz.f7 Rows.fnExactQuietInRow.domain false) (Rows.fnExactQuietInSpec.post enc Tryz.prog Tryz.f7 false true false false):=by
 refine returnsInHanded_of_change (C:=Tryz.checked) own started (by kernel_rfl) Tryz.func7
  (ChangeSpec.witness6 (enc:=enc) (C:=Tryz.checked) false ⟨#[],#[.agg #[.int .i64 0,.int .i64 0,.int .i64 0,.int .i64 0,.slice none 0 0,.slice none 0 0,.slice none 0 0,.slice none 0 0,.int .i64 0]],[]⟩ 8 (by kernel_rfl) (by kernel_rfl) (by kernel_rfl) (by kernel_rfl)) ?_
 intro W base args ds gs before hval0 hW hcnd _
 have hval:∀ (j:Nat) t v,Tryz.f7.params[j]?=some t→args[j]?=some v→Value.okWide Tryz.prog W .any base t v:=hval0
 have hW':=hW
 obtain ⟨p,q,LH,hV,rfl,hfz,hnd⟩:=hW
 have hA:DataW.TrodAll enc Tryz.prog W 0 (fun _=>true) true Tryz.f7.params.toList args.toList ds p:=LH
 rw [Tryz.params7] at hA hval
 obtain ⟨v0,PI,d0,ds0,p0,q0,hargs,rfl,rfl,h0,r0⟩:=trodAll_cons hA
 obtain ⟨rfl,rfl,rfl⟩:=trodAll_nil r0
 obtain rfl:args=#[v0]:=by cases args;simp_all
 obtain ⟨rfl,rfl⟩:=trodVars_none hV
 have k0:=h0
 have NR:∀ x ∈ p0,x.block<W.heap.size:=by obtain ⟨m,hm⟩:=k0;exact DataW.trod_lt m _ _ _ hm
 obtain ⟨Dy,NS,sb0,NT,NU,NV,NW,NY,NZ,rfl,m0,S0⟩:=Dv (hval 0 68 v0 rfl rfl) h0
 clear LH hval0
 refine (pR Dy (quietIn Dy) NS sb0 NT NU NV NW NY NZ W S0 m0 (FZ Dy) (Ga Dy)).mono fun e W' ⟨he,LJ⟩=>?_
 subst he
 exact ⟨_,rfl,_,_,_,[],_,[],hW',trodAll_mk1 (shut_bool Tryz.underlying4 _),(trodAll_cons_mk (Below.trod laidOut (by kernel_rfl) (of_decide_eq_true (by kernel_rfl)) k0 LJ NR) trodAll_mk0),rfl,LJ.frame _,fun h=>by cases h⟩
theorem over:Rows.fnExactQuietInRow.holds Tryz.pinned (OpenSpec.ofChange Rows.fnExactQuietInSpec) :=
 OpenClaim.holds_of_wide 7 Tryz.f7 rfl rfl rfl rfl rfl rfl rfl ⟨rfl,rfl,rfl,rfl,rfl⟩ rfl rfl rfl rfl rfl (by kernel_rfl) Tryz.func7 (by kernel_rfl)
  (of_decide_eq_true (by kernel_rfl)) (by unfold Func.isWrapper;first|(rw [if_pos (by decide +kernel)];kernel_rfl)|(rw [if_neg (by decide +kernel)];exact ⟨rfl,rfl⟩))
  (fun os started H enc _=>lifted os started H enc)
end FnExactQuietIn
theorem fnExactQuietIn_proved:Rows.FnExactQuietInSaid:=FnExactQuietIn.over
end
section
open Go.RowKit
theorem Gb {P:Program} {ops:Array Oper} {o:Oper} {a:Act} {K:Act→World→Prop} {Q:Exit→Act→World→Prop} {E:Prop} {w:World} (hgd:o.guard=none) (s x:Operand) (t:TypeId)
  (ho:o.op=.call { callee:=.builtin .append,args:=#[s,x],argTypes:=#[t,t] })
  (base:Nat) (e:TypeId) (i:TypeInfo) (z:Value) (size bytes:Nat) (ht:P.underlying t=some (.slice e)) (hi:P.info? e=some i) (hz:i.zero=some z)
  (hsize:i.size=size) (hby:i.bytes=bytes) (hzs:z.cells.size=size) (hsz:0<size)
  (v:Value) (n:Nat) (xs:List Value) (hs:a.eval s=v) (hown:w.ownsRow base e size v n xs)
  (b:Option Addr) (m c:Nat) (news:List Value) (hx:a.eval x=.slice b m c) (hz0:b=none→m=0∧c=0) (hl:news.length=m*size) (hnews:∀ ad,b=some ad→∀ j u,news[j]?=some u→w.cell? (ad.add j)=some u) (h1:∀ u ∈ news,u.oneCell'=true)
  (h63:n+m≤maxLen) (hbytes:(n+m)*bytes≤140737488355328) (hbase:base≤w.heap.size)
  (h:∀ v' w',w'.ownsRow base e size v' (n+m) (xs ++ news)→w.grownBy w' v.ownBlock→K (a.put o.dst v') w') :
  if Region.wanted o (yielded ops a.tmps)=true then Oper.wp P o a w K Q else E:=by
 have hw:Region.wanted o (yielded ops a.tmps)=true:=by simp [Region.wanted,hgd]
 rw [if_pos hw]
 rcases b with _|ad
 ·obtain ⟨rfl,rfl⟩:=hz0 rfl
  have hr:=run_append_owned_none (P:=P) (w:=w) base t o.type e i size ht hi v n xs hown
  obtain rfl:news=[]:=List.eq_nil_of_length_eq_zero (by simpa using hl)
  unfold Oper.wp execOp
  simp only [ho,resolve,invoke,builtin,Sem.run_bind,Sem.run_pure,Result.andThen_ok,List.map_toArray,List.map_cons,List.map_nil,hs,hx,hr]
  exact h v w (by simpa using hown) (KO _ _)
 ·obtain ⟨v',w',hr,r1,r2,_⟩:=run_append_own (P:=P) w base t o.type e i z size bytes ht hi hz hsize hby hzs hsz v n xs hown ad m c news hl (hnews ad rfl) h1 h63 hbytes hbase
  unfold Oper.wp execOp
  simp only [ho,resolve,invoke,builtin,Sem.run_bind,Sem.run_pure,Result.andThen_ok,List.map_toArray,List.map_cons,List.map_nil,hs,hx,hr]
  exact h v' w' r1 r2
end
end Go.Proofs.YtffhjmepfojhnaaGreat
