/-
  The draw of a channel: at most 40 cells and 38 words, its words the call's own; only the cursor turns; the drawn bytes are at most 4096.
-/
import Derived.Test.YtikhaaccgoiaeaaP21
import Derived.Deep.RegionLaw
set_option linter.unusedSimpArgs false
set_option linter.unusedVariables false
namespace Go.Proofs.Ytikhaaccgoiaeaa
open Go.RowKit
set_option linter.unusedSimpArgs false
attribute [local simp] bx_size
attribute [local go_sem ↓] zeroHand toLHand toVHand toSHand storeHandC
attribute [local go_sem] runSHand
/-- A drawn channel is answered. -/
def ChanD (w':World) (lo:Nat) (r:Ending):Prop:=∃ (c:Ch) (a:Option Addr) (p:Nat) (v2:Value),r=.returned (.agg #[.int .i64 c.cap,.int .i64 c.sent,.int .i64 c.got,.int .i64 c.fin,.slice a c.cells.length p,v2])∧Seg w' w'.heap.size a c.cells.length 3 (cellF c.cells)∧(a=none→p=0)∧(∀ ad,a=some ad→lo≤ad.block)∧OInts w' lo v2 c.words∧c.cells.length≤40∧c.words.length≤38
def ChanE (w':World) (lo:Nat) (r:Ending):Prop:=∃ (c:Ch) (a:Option Addr) (p:Nat) (v2:Value),r=.returned (.agg #[.int .i64 c.cap,.int .i64 c.sent,.int .i64 c.got,.int .i64 c.fin,.slice a c.cells.length p,v2])∧Seg w' w'.heap.size a c.cells.length 3 (cellF c.cells)∧(a=none→p=0)∧(∀ ad,a=some ad→lo≤ad.block)∧OInts w' lo v2 c.words∧c.cells.length≤40∧c.words.length≤38∧∀ ad,a=some ad→v2.ownBlock≠some ad.block
theorem off_blk {a:Option Addr} {n p:Nat} {v2:Value} (h:(Value.slice a n p).ownBlock=none∨(Value.slice a n p).ownBlock≠v2.ownBlock) (ad:Addr) (e:a=some ad):v2.ownBlock≠some ad.block:=by
  subst e
  rcases h with h|h
  · simp [Value.ownBlock] at h
  · exact fun k=>h (by rw [k];rfl)
theorem DS.grown {w w':World} {B g:Nat} {row:Option Nat} (h:DS w B g) (hg:w.grownBy w' row) (hr:∀ k,row=some k→g<k):DS w' B g :=
  h.keep (hg.block g h.lt (fun e=>by have:=hr _ e.symm;omega)) (bOwn (Below.refl _ _) hg (by have:=h.le;have:=h.lt;omega) (fun k hk=>by have:=hr k hk;have:=h.le;omega))
theorem Gr.grown {w W w':World} {g:Nat} {row:Option Nat} (h:Gr g w W) (hg:W.grownBy w' row) (hr:∀ k,row=some k→w.heap.size≤k):Gr g w w' :=
  ⟨hg.os.trans h.os,hg.tape.trans h.tape,hg.output.trans h.output,Nat.le_trans h.size hg.size,fun i hi hn=>(hg.block i (Nat.lt_of_lt_of_le hi h.size) (fun e=>by have:=hr _ e.symm;omega)).trans (h.block i hi hn)⟩
theorem OCells.opens {w:World} {lo p:Nat} {a:Option Addr} {cs:List C3} (h:OCells w lo (.slice a cs.length p) cs) (hn:0<cs.length):∃ g,a=some ⟨g,0,none⟩∧lo≤g∧g<w.heap.size∧cs.length≤p∧(∀ i j,i<cs.length→j<3→w.cell? ⟨g,i*3+j,none⟩=some (cellF cs i j))∧∀ o,w.frozen? ⟨g,o,none⟩=false:=by
  have h2:=h
  rcases h.2 with ⟨_,h0⟩|⟨g,cap,cur,e,hl,hg,hc,_⟩
  · omega
  · simp at e
    obtain ⟨rfl,rfl⟩:=e
    refine ⟨g,rfl,hl,(Array.getElem?_eq_some_iff.1 hg).1,hc,fun i j hi hj=>?_,fun o=>by simp [World.frozen?,hg]⟩
    have:=h2.cells (g:=g) rfl (i*3+j) _ (flatC_get cs i j hi hj)
    rw [← this]
    congr 1
    by_cases e:i*3+j=0 <;> simp [Addr.add,e] <;> omega
theorem OCells.low {w:World} {lo p:Nat} {a:Option Addr} {cs:List C3} (h:OCells w lo (.slice a cs.length p) cs) (ad:Addr) (e:a=some ad):lo≤ad.block:=by
  subst e
  exact (h.lt ad.block rfl).1
theorem OCells.segz {w:World} {lo p:Nat} {a:Option Addr} {cs:List C3} (h:OCells w lo (.slice a cs.length p) cs):Seg w w.heap.size a cs.length 3 (cellF cs)∧(a=none→p=0):=by
  obtain ⟨a',p',e,hs,hz⟩:=own_opens h fun i j hi hj=>flatC_get cs i j hi hj
  simp at e
  obtain ⟨rfl,rfl⟩:=e
  exact ⟨hs,fun h=>(hz h).2⟩
theorem OInts.segz {w:World} {lo p:Nat} {a:Option Addr} {l:List Int} (h:OInts w lo (.slice a l.length p) l):Seg w w.heap.size a l.length 1 (intF l)∧(a=none→p=0):=by
  obtain ⟨a',p',e,hs,hz⟩:=own_opens (f:=intF l) h fun i j hi hj=>by
    have:j=0:=by omega
    subst this
    simp [ints,intF,List.getD,hi]
  simp at e
  obtain ⟨rfl,rfl⟩:=e
  exact ⟨hs,fun h=>(hz h).2⟩
theorem segz_set {w:World} {lo p z:Nat} {g:Nat} {cs:List C3} {c:C3} (h:OCells w lo (.slice (some ⟨g,0,none⟩) cs.length p) (cs.set z c)):Seg w w.heap.size (some ⟨g,0,none⟩) (cs.set z c).length 3 (cellF (cs.set z c)):=by
  have e:cs.length=(cs.set z c).length:=by simp
  rw [e] at h
  exact (OCells.segz h).1
/-- What is behind the first. -/
theorem Seg.tail {w:World} {B k:Nat} {a:Addr} {c:C3} {cs:List C3} (h:Seg w B (some a) (c :: cs).length 3 (cellF (c :: cs))) (hk:k=a.off+3) (hs:a.spot=none):Seg w B (some ⟨a.block,k,none⟩) cs.length 3 (cellF cs):=by
  rcases h with h|⟨b,o,e,hb,hc⟩
  · simp at h
  · simp at e
    subst e
    refine .inr ⟨b,k,rfl,hb,fun i j hi hj=>?_⟩
    have:=hc (i+1) j (by simp;omega) hj
    simp [cellF] at this ⊢
    rw [← this]
    congr 2
    simp at hk
    omega
theorem fieldChan (i1 i2 i3 i4 i5:Int) (v1 v2 v3 v4:Value) (w:World):(Instr.field 96 (.agg #[.int .i64 i1,.int .i64 i2,.int .i64 i3,.int .i64 i4,v1,v2,v3,v4,.int .i64 i5]) 0).run Try.prog w=.ok (.agg #[.int .i64 i1,.int .i64 i2,.int .i64 i3,.int .i64 i4,v1,v2]) w:=by kernel_rfl
set_option maxRecDepth 100000 in
set_option maxHeartbeats 4000000 in
theorem l2DrawAny_all (B g:Nat) (w:World) (hd:DS w B g):Calls Try.prog 40 #[.pointer (some ⟨g,0,none⟩)] w fun r w'=>ChanE w' w.heap.size r∧DS w' B g∧Gr g w w':=by
  have hl:=hd.lt
  have hle:=hd.le
  have mg0:some w.heap.size≠some g:=by simp;omega
  go_enter Try.func40,Try.ntmps40
  go_wp2_with fail;refine (l11Draw_any B g  _ (by (repeat (first|with_reducible assumption|with_reducible refine DS.alloc ?_|with_reducible refine DS.drew ?_|((with_reducible refine DS.setCell ?_ ?_ ?_);rotate_left;(focus ((try simp);(try omega)));(focus ((try simp);(try omega))))))) ).mono ?_;rintro _ w1 ⟨⟨x,v1,v2,v3,v4,rfl,hown,hx,hxw⟩,hdw1,hgw1⟩;have hGw1:Gr g w w1:=gT (by (repeat (first|with_reducible assumption|with_reducible exact gR _ _|with_reducible refine gA ?_|with_reducible refine gD ?_|((with_reducible refine gS ?_ (.inr ?_));rotate_left;(focus ((try simp);(try omega))))))) hgw1;have hlw1:=hdw1.lt;have hsw1:=hgw1.size;(try (simp at hsw1))
  have hsw1:=hgw1.size;(try (simp at hsw1));have zz:=grHp hgw1 (b:=w.heap.size) (by (try simp) <;> omega) (by assumption);(try simp [go_sem] at zz);(try clear z_w x_w f_w l_w);have z_w:=zz;clear zz;obtain ⟨x_w,f_w,l_w⟩:=bO z_w
  replace hown:WOwn w1 (w.heap.size+1) v1 v2 v3 v4 x:=by simpa using hown
  have OW:=Lib.hid hown
  obtain ⟨a1,a2,a3,a4,c1,c2,c3,c4,rfl,rfl,rfl,rfl,_⟩:=hown.opens
  have hfd:=fieldChan
  have OFF:=Lib.hid (own_off_ty OW.out.1 OW.out.2.1 (by decide))
  have H40:=Lib.hid (chan_parts hx.ch).1
  have hl1:x.ch.cells.length≤40:=by rw [H40.out];omega
  have hl2:x.ch.words.length≤38:=by omega
  have mg1:some w1.heap.size≠some g:=by simp;omega
  have hww:w.heap.size<w1.heap.size:=by omega
  clear z_w f_w x_w
  have z_w:hp w1 w.heap.size=some (.cells #[.int .i64 0,.int .i64 0,.int .i64 0,.int .i64 0,.slice none 0 0,.slice none 0 0] 27):=(grHp hgw1 (by simp) mg0).trans (by simp [go_sem])
  have b1:∀ j,(Value.slice a1 x.ch.cells.length c1).ownBlock=some j→j<w1.heap.size:=fun j hj=>(OW.out.1.lt j hj).2
  have b2:∀ j,(Value.slice a2 x.ch.words.length c2).ownBlock=some j→j<w1.heap.size:=fun j hj=>(OW.out.2.1.lt j hj).2
  have m1:(Value.slice a1 x.ch.cells.length c1).ownBlock≠some w1.heap.size:=fun e=>by have:=b1 _ e;omega
  have m2:(Value.slice a2 x.ch.words.length c2).ownBlock≠some w1.heap.size:=fun e=>by have:=b2 _ e;omega
  have n2:(Value.slice a2 x.ch.words.length c2).ownBlock≠some w.heap.size:=own_ne OW.out.2.1 (by omega)
  have n1:(Value.slice a1 x.ch.cells.length c1).ownBlock≠some w.heap.size:=own_ne OW.out.1 (by omega)
  go_wp2_with fail;refine (l1Once_any B g 6  _ (by (repeat (first|with_reducible assumption|with_reducible refine DS.alloc ?_|with_reducible refine DS.drew ?_|((with_reducible refine DS.setCell ?_ ?_ ?_);rotate_left;(focus ((try simp);(try omega)));(focus ((try simp);(try omega)))))))  (by omega) (by omega)).mono ?_;rintro _ w2 ⟨⟨y2,rfl⟩,hdw2,hgw2⟩;have hGw2:Gr g w w2:=gT (by (repeat (first|with_reducible assumption|with_reducible exact gR _ _|with_reducible refine gA ?_|with_reducible refine gD ?_|((with_reducible refine gS ?_ (.inr ?_));rotate_left;(focus ((try simp);(try omega))))))) hgw2;have hlw2:=hdw2.lt;have hsw2:=hgw2.size;(try (simp at hsw2))
  have hzw2:=hgw2.size
  (try simp at hzw2)
  have t_w1:hp w2 w1.heap.size=some (.cells #[.int .i64 x.ch.cap,.int .i64 x.ch.sent,.int .i64 x.ch.got,.int .i64 x.ch.fin,.slice a1 x.ch.cells.length c1,.slice a2 x.ch.words.length c2] 27):=(grHp hgw2 (by (try simp) <;> (try omega)) mg1).trans (by simp [go_sem, *])
  have t_w:hp w2 w.heap.size=some (.cells #[.int .i64 0,.int .i64 0,.int .i64 0,.int .i64 0,.slice none 0 0,.slice none 0 0] 27):=(grHp hgw2 (by (try simp) <;> (try omega)) mg0).trans (by simp [go_sem, *])
  have p1:OCells w2 (w.heap.size+1) (.slice a1 x.ch.cells.length c1) x.ch.cells:=(World.ownsRow.alloc OW.out.1 _).kept hgw2 (.inr (own_ne OW.out.1 (by omega)))
  have p2:OInts w2 (w.heap.size+1) (.slice a2 x.ch.words.length c2) x.ch.words:=(World.ownsRow.alloc OW.out.2.1 _).kept hgw2 (.inr (own_ne OW.out.2.1 (by omega)))
  clear z_w l_w
  have l_w:w.heap.size<w2.heap.size:=by omega
  have l_w1:w1.heap.size<w2.heap.size:=by omega
  have x_w:∀ o,w2.cell? ⟨w.heap.size,o,none⟩=_:=fun o=>cell_of_row w2 w.heap.size o _ _ _ t_w
  have x_w1:∀ o,w2.cell? ⟨w1.heap.size,o,none⟩=_:=fun o=>cell_of_row w2 w1.heap.size o _ _ _ t_w1
  have f_w:∀ o,w2.frozen? ⟨w.heap.size,o,none⟩=false:=heap_frozen t_w
  have f_w1:∀ o,w2.frozen? ⟨w1.heap.size,o,none⟩=false:=heap_frozen t_w1
  have z_w:=t_w
  have z_w1:=t_w1
  have o1:=p1
  have o2:=p2
  clear t_w t_w1 p1 p2
  cases y2
  · go_wp2
    refine bodyPost_ret (v:=.agg #[.int .i64 x.ch.cap,.int .i64 x.ch.sent,.int .i64 x.ch.got,.int .i64 x.ch.fin,.slice a1 x.ch.cells.length c1,.slice a2 x.ch.words.length c2]) (by simp [results,Try.results40,go_sem, *]) rfl ⟨⟨x.ch,a1,c1,.slice a2 x.ch.words.length c2,rfl,?_,?_,?_,?_,?_,?_,?_⟩,?_,?_⟩
    · exact (OCells.segz (lo:=w.heap.size+1) (by (repeat (first|with_reducible exact o1|with_reducible refine World.ownsRow.alloc ?_ _|with_reducible refine World.ownsRow.drew ?_|((with_reducible refine own_store ?_ ?_ _);rotate_left;(focus (first|exact n1|exact m1))))))).1
    · exact (OCells.segz (lo:=w.heap.size+1) (by (repeat (first|with_reducible exact o1|with_reducible refine World.ownsRow.alloc ?_ _|with_reducible refine World.ownsRow.drew ?_|((with_reducible refine own_store ?_ ?_ _);rotate_left;(focus (first|exact n1|exact m1))))))).2
    · exact fun ad e=>Nat.le_of_succ_le (OCells.low OW.out.1 ad e)
    · exact own_lo (lo:=w.heap.size+1) (by (repeat (first|with_reducible exact o2|with_reducible refine World.ownsRow.alloc ?_ _|with_reducible refine World.ownsRow.drew ?_|((with_reducible refine own_store ?_ ?_ _);rotate_left;(focus (first|exact n2|exact m2)))))) (by omega)
    · exact hl1
    · exact hl2
    · exact off_blk OFF.out
    · (repeat (first|with_reducible assumption|with_reducible refine DS.alloc ?_|with_reducible refine DS.drew ?_|((with_reducible refine DS.setCell ?_ ?_ ?_);rotate_left;(focus ((try simp);(try omega)));(focus ((try simp);(try omega))))))
    · (repeat (first|with_reducible assumption|with_reducible exact gR _ _|with_reducible refine gA ?_|with_reducible refine gD ?_|((with_reducible refine gS ?_ (.inr ?_));rotate_left;(focus ((try simp);(try omega))))))
  · go_wp2_with fail;refine (l1Below_any B g 7  _ (by (repeat (first|with_reducible assumption|with_reducible refine DS.alloc ?_|with_reducible refine DS.drew ?_|((with_reducible refine DS.setCell ?_ ?_ ?_);rotate_left;(focus ((try simp);(try omega)));(focus ((try simp);(try omega)))))))  (by omega) (by omega)).mono ?_;rintro _ w3 ⟨⟨x3,rfl,h30,h31⟩,hdw3,hgw3⟩;have hGw3:Gr g w w3:=gT (by (repeat (first|with_reducible assumption|with_reducible exact gR _ _|with_reducible refine gA ?_|with_reducible refine gD ?_|((with_reducible refine gS ?_ (.inr ?_));rotate_left;(focus ((try simp);(try omega))))))) hgw3;have hlw3:=hdw3.lt;have hsw3:=hgw3.size;(try (simp at hsw3))
    have hzw3:=hgw3.size
    (try simp at hzw3)
    have t_w1:hp w3 w1.heap.size=some (.cells #[.int .i64 x.ch.cap,.int .i64 x.ch.sent,.int .i64 x.ch.got,.int .i64 x.ch.fin,.slice a1 x.ch.cells.length c1,.slice a2 x.ch.words.length c2] 27):=(grHp hgw3 (by (try simp) <;> (try omega)) mg1).trans (by simp [go_sem, *])
    have t_w:hp w3 w.heap.size=some (.cells #[.int .i64 0,.int .i64 0,.int .i64 0,.int .i64 0,.slice none 0 0,.slice none 0 0] 27):=(grHp hgw3 (by (try simp) <;> (try omega)) mg0).trans (by simp [go_sem, *])
    have p1:OCells w3 (w.heap.size+1) (.slice a1 x.ch.cells.length c1) x.ch.cells:=o1.kept hgw3 (.inr (own_ne OW.out.1 (by omega)))
    have p2:OInts w3 (w.heap.size+1) (.slice a2 x.ch.words.length c2) x.ch.words:=o2.kept hgw3 (.inr (own_ne OW.out.2.1 (by omega)))
    clear z_w z_w1 x_w x_w1 f_w f_w1 l_w l_w1 o1 o2
    have l_w:w.heap.size<w3.heap.size:=by omega
    have l_w1:w1.heap.size<w3.heap.size:=by omega
    have x_w:∀ o,w3.cell? ⟨w.heap.size,o,none⟩=_:=fun o=>cell_of_row w3 w.heap.size o _ _ _ t_w
    have x_w1:∀ o,w3.cell? ⟨w1.heap.size,o,none⟩=_:=fun o=>cell_of_row w3 w1.heap.size o _ _ _ t_w1
    have f_w:∀ o,w3.frozen? ⟨w.heap.size,o,none⟩=false:=heap_frozen t_w
    have f_w1:∀ o,w3.frozen? ⟨w1.heap.size,o,none⟩=false:=heap_frozen t_w1
    have z_w:=t_w
    have z_w1:=t_w1
    have o1:=p1
    have o2:=p2
    clear t_w t_w1 p1 p2
    have hx3:x3=0∨x3=1∨x3=2∨x3=3∨x3=4∨x3=5∨x3=6:=by omega
    clear h30 h31
    rcases hx3 with rfl|rfl|rfl|rfl|rfl|rfl|rfl
    · go_wp2_with fail;refine (l1Num_any B g 4  _ (by (repeat (first|with_reducible assumption|with_reducible refine DS.alloc ?_|with_reducible refine DS.drew ?_|((with_reducible refine DS.setCell ?_ ?_ ?_);rotate_left;(focus ((try simp);(try omega)));(focus ((try simp);(try omega)))))))  (by omega) (by omega)).mono ?_;rintro _ w4 ⟨⟨x4,rfl⟩,hdw4,hgw4⟩;have hGw4:Gr g w w4:=gT (by (repeat (first|with_reducible assumption|with_reducible exact gR _ _|with_reducible refine gA ?_|with_reducible refine gD ?_|((with_reducible refine gS ?_ (.inr ?_));rotate_left;(focus ((try simp);(try omega))))))) hgw4;have hlw4:=hdw4.lt;have hsw4:=hgw4.size;(try (simp at hsw4))
      have hzw4:=hgw4.size
      (try simp at hzw4)
      have t_w1:hp w4 w1.heap.size=some (.cells #[.int .i64 x.ch.cap,.int .i64 x.ch.sent,.int .i64 x.ch.got,.int .i64 x.ch.fin,.slice a1 x.ch.cells.length c1,.slice a2 x.ch.words.length c2] 27):=(grHp hgw4 (by (try simp) <;> (try omega)) mg1).trans (by simp [go_sem, *])
      have t_w:hp w4 w.heap.size=some (.cells #[.int .i64 0,.int .i64 0,.int .i64 0,.int .i64 0,.slice none 0 0,.slice none 0 0] 27):=(grHp hgw4 (by (try simp) <;> (try omega)) mg0).trans (by simp [go_sem, *])
      have p1:OCells w4 (w.heap.size+1) (.slice a1 x.ch.cells.length c1) x.ch.cells:=o1.kept hgw4 (.inr (own_ne OW.out.1 (by omega)))
      have p2:OInts w4 (w.heap.size+1) (.slice a2 x.ch.words.length c2) x.ch.words:=o2.kept hgw4 (.inr (own_ne OW.out.2.1 (by omega)))
      clear z_w z_w1 x_w x_w1 f_w f_w1 l_w l_w1 o1 o2
      have l_w:w.heap.size<w4.heap.size:=by omega
      have l_w1:w1.heap.size<w4.heap.size:=by omega
      have x_w:∀ o,w4.cell? ⟨w.heap.size,o,none⟩=_:=fun o=>cell_of_row w4 w.heap.size o _ _ _ t_w
      have x_w1:∀ o,w4.cell? ⟨w1.heap.size,o,none⟩=_:=fun o=>cell_of_row w4 w1.heap.size o _ _ _ t_w1
      have f_w:∀ o,w4.frozen? ⟨w.heap.size,o,none⟩=false:=heap_frozen t_w
      have f_w1:∀ o,w4.frozen? ⟨w1.heap.size,o,none⟩=false:=heap_frozen t_w1
      have z_w:=t_w
      have z_w1:=t_w1
      have o1:=p1
      have o2:=p2
      clear t_w t_w1 p1 p2
      go_wp2
      refine bodyPost_ret (v:=.agg #[.int .i64 { x.ch with cap:=x4 }.cap,.int .i64 { x.ch with cap:=x4 }.sent,.int .i64 { x.ch with cap:=x4 }.got,.int .i64 { x.ch with cap:=x4 }.fin,.slice a1 { x.ch with cap:=x4 }.cells.length c1,.slice a2 x.ch.words.length c2]) (by simp [results,Try.results40,go_sem, *]) rfl ⟨⟨{ x.ch with cap:=x4 },a1,c1,.slice a2 x.ch.words.length c2,rfl,?_,?_,?_,?_,?_,?_,?_⟩,?_,?_⟩
      · exact (OCells.segz (lo:=w.heap.size+1) (by (repeat (first|with_reducible exact o1|with_reducible refine World.ownsRow.alloc ?_ _|with_reducible refine World.ownsRow.drew ?_|((with_reducible refine own_store ?_ ?_ _);rotate_left;(focus (first|exact n1|exact m1))))))).1
      · exact (OCells.segz (lo:=w.heap.size+1) (by (repeat (first|with_reducible exact o1|with_reducible refine World.ownsRow.alloc ?_ _|with_reducible refine World.ownsRow.drew ?_|((with_reducible refine own_store ?_ ?_ _);rotate_left;(focus (first|exact n1|exact m1))))))).2
      · exact fun ad e=>Nat.le_of_succ_le (OCells.low OW.out.1 ad e)
      · exact own_lo (lo:=w.heap.size+1) (by (repeat (first|with_reducible exact o2|with_reducible refine World.ownsRow.alloc ?_ _|with_reducible refine World.ownsRow.drew ?_|((with_reducible refine own_store ?_ ?_ _);rotate_left;(focus (first|exact n2|exact m2)))))) (by omega)
      · exact hl1
      · exact hl2
      · exact off_blk OFF.out
      · (repeat (first|with_reducible assumption|with_reducible refine DS.alloc ?_|with_reducible refine DS.drew ?_|((with_reducible refine DS.setCell ?_ ?_ ?_);rotate_left;(focus ((try simp);(try omega)));(focus ((try simp);(try omega))))))
      · (repeat (first|with_reducible assumption|with_reducible exact gR _ _|with_reducible refine gA ?_|with_reducible refine gD ?_|((with_reducible refine gS ?_ (.inr ?_));rotate_left;(focus ((try simp);(try omega))))))
    · go_wp2_with fail;refine (l1Num_any B g 40  _ (by (repeat (first|with_reducible assumption|with_reducible refine DS.alloc ?_|with_reducible refine DS.drew ?_|((with_reducible refine DS.setCell ?_ ?_ ?_);rotate_left;(focus ((try simp);(try omega)));(focus ((try simp);(try omega)))))))  (by omega) (by omega)).mono ?_;rintro _ w4 ⟨⟨x4,rfl⟩,hdw4,hgw4⟩;have hGw4:Gr g w w4:=gT (by (repeat (first|with_reducible assumption|with_reducible exact gR _ _|with_reducible refine gA ?_|with_reducible refine gD ?_|((with_reducible refine gS ?_ (.inr ?_));rotate_left;(focus ((try simp);(try omega))))))) hgw4;have hlw4:=hdw4.lt;have hsw4:=hgw4.size;(try (simp at hsw4))
      have hzw4:=hgw4.size
      (try simp at hzw4)
      have t_w1:hp w4 w1.heap.size=some (.cells #[.int .i64 x.ch.cap,.int .i64 x.ch.sent,.int .i64 x.ch.got,.int .i64 x.ch.fin,.slice a1 x.ch.cells.length c1,.slice a2 x.ch.words.length c2] 27):=(grHp hgw4 (by (try simp) <;> (try omega)) mg1).trans (by simp [go_sem, *])
      have t_w:hp w4 w.heap.size=some (.cells #[.int .i64 0,.int .i64 0,.int .i64 0,.int .i64 0,.slice none 0 0,.slice none 0 0] 27):=(grHp hgw4 (by (try simp) <;> (try omega)) mg0).trans (by simp [go_sem, *])
      have p1:OCells w4 (w.heap.size+1) (.slice a1 x.ch.cells.length c1) x.ch.cells:=o1.kept hgw4 (.inr (own_ne OW.out.1 (by omega)))
      have p2:OInts w4 (w.heap.size+1) (.slice a2 x.ch.words.length c2) x.ch.words:=o2.kept hgw4 (.inr (own_ne OW.out.2.1 (by omega)))
      clear z_w z_w1 x_w x_w1 f_w f_w1 l_w l_w1 o1 o2
      have l_w:w.heap.size<w4.heap.size:=by omega
      have l_w1:w1.heap.size<w4.heap.size:=by omega
      have x_w:∀ o,w4.cell? ⟨w.heap.size,o,none⟩=_:=fun o=>cell_of_row w4 w.heap.size o _ _ _ t_w
      have x_w1:∀ o,w4.cell? ⟨w1.heap.size,o,none⟩=_:=fun o=>cell_of_row w4 w1.heap.size o _ _ _ t_w1
      have f_w:∀ o,w4.frozen? ⟨w.heap.size,o,none⟩=false:=heap_frozen t_w
      have f_w1:∀ o,w4.frozen? ⟨w1.heap.size,o,none⟩=false:=heap_frozen t_w1
      have z_w:=t_w
      have z_w1:=t_w1
      have o1:=p1
      have o2:=p2
      clear t_w t_w1 p1 p2
      go_wp2
      refine bodyPost_ret (v:=.agg #[.int .i64 { x.ch with sent:=x4 }.cap,.int .i64 { x.ch with sent:=x4 }.sent,.int .i64 { x.ch with sent:=x4 }.got,.int .i64 { x.ch with sent:=x4 }.fin,.slice a1 { x.ch with sent:=x4 }.cells.length c1,.slice a2 x.ch.words.length c2]) (by simp [results,Try.results40,go_sem, *]) rfl ⟨⟨{ x.ch with sent:=x4 },a1,c1,.slice a2 x.ch.words.length c2,rfl,?_,?_,?_,?_,?_,?_,?_⟩,?_,?_⟩
      · exact (OCells.segz (lo:=w.heap.size+1) (by (repeat (first|with_reducible exact o1|with_reducible refine World.ownsRow.alloc ?_ _|with_reducible refine World.ownsRow.drew ?_|((with_reducible refine own_store ?_ ?_ _);rotate_left;(focus (first|exact n1|exact m1))))))).1
      · exact (OCells.segz (lo:=w.heap.size+1) (by (repeat (first|with_reducible exact o1|with_reducible refine World.ownsRow.alloc ?_ _|with_reducible refine World.ownsRow.drew ?_|((with_reducible refine own_store ?_ ?_ _);rotate_left;(focus (first|exact n1|exact m1))))))).2
      · exact fun ad e=>Nat.le_of_succ_le (OCells.low OW.out.1 ad e)
      · exact own_lo (lo:=w.heap.size+1) (by (repeat (first|with_reducible exact o2|with_reducible refine World.ownsRow.alloc ?_ _|with_reducible refine World.ownsRow.drew ?_|((with_reducible refine own_store ?_ ?_ _);rotate_left;(focus (first|exact n2|exact m2)))))) (by omega)
      · exact hl1
      · exact hl2
      · exact off_blk OFF.out
      · (repeat (first|with_reducible assumption|with_reducible refine DS.alloc ?_|with_reducible refine DS.drew ?_|((with_reducible refine DS.setCell ?_ ?_ ?_);rotate_left;(focus ((try simp);(try omega)));(focus ((try simp);(try omega))))))
      · (repeat (first|with_reducible assumption|with_reducible exact gR _ _|with_reducible refine gA ?_|with_reducible refine gD ?_|((with_reducible refine gS ?_ (.inr ?_));rotate_left;(focus ((try simp);(try omega))))))
    · go_wp2_with fail;refine (l1Num_any B g 40  _ (by (repeat (first|with_reducible assumption|with_reducible refine DS.alloc ?_|with_reducible refine DS.drew ?_|((with_reducible refine DS.setCell ?_ ?_ ?_);rotate_left;(focus ((try simp);(try omega)));(focus ((try simp);(try omega)))))))  (by omega) (by omega)).mono ?_;rintro _ w4 ⟨⟨x4,rfl⟩,hdw4,hgw4⟩;have hGw4:Gr g w w4:=gT (by (repeat (first|with_reducible assumption|with_reducible exact gR _ _|with_reducible refine gA ?_|with_reducible refine gD ?_|((with_reducible refine gS ?_ (.inr ?_));rotate_left;(focus ((try simp);(try omega))))))) hgw4;have hlw4:=hdw4.lt;have hsw4:=hgw4.size;(try (simp at hsw4))
      have hzw4:=hgw4.size
      (try simp at hzw4)
      have t_w1:hp w4 w1.heap.size=some (.cells #[.int .i64 x.ch.cap,.int .i64 x.ch.sent,.int .i64 x.ch.got,.int .i64 x.ch.fin,.slice a1 x.ch.cells.length c1,.slice a2 x.ch.words.length c2] 27):=(grHp hgw4 (by (try simp) <;> (try omega)) mg1).trans (by simp [go_sem, *])
      have t_w:hp w4 w.heap.size=some (.cells #[.int .i64 0,.int .i64 0,.int .i64 0,.int .i64 0,.slice none 0 0,.slice none 0 0] 27):=(grHp hgw4 (by (try simp) <;> (try omega)) mg0).trans (by simp [go_sem, *])
      have p1:OCells w4 (w.heap.size+1) (.slice a1 x.ch.cells.length c1) x.ch.cells:=o1.kept hgw4 (.inr (own_ne OW.out.1 (by omega)))
      have p2:OInts w4 (w.heap.size+1) (.slice a2 x.ch.words.length c2) x.ch.words:=o2.kept hgw4 (.inr (own_ne OW.out.2.1 (by omega)))
      clear z_w z_w1 x_w x_w1 f_w f_w1 l_w l_w1 o1 o2
      have l_w:w.heap.size<w4.heap.size:=by omega
      have l_w1:w1.heap.size<w4.heap.size:=by omega
      have x_w:∀ o,w4.cell? ⟨w.heap.size,o,none⟩=_:=fun o=>cell_of_row w4 w.heap.size o _ _ _ t_w
      have x_w1:∀ o,w4.cell? ⟨w1.heap.size,o,none⟩=_:=fun o=>cell_of_row w4 w1.heap.size o _ _ _ t_w1
      have f_w:∀ o,w4.frozen? ⟨w.heap.size,o,none⟩=false:=heap_frozen t_w
      have f_w1:∀ o,w4.frozen? ⟨w1.heap.size,o,none⟩=false:=heap_frozen t_w1
      have z_w:=t_w
      have z_w1:=t_w1
      have o1:=p1
      have o2:=p2
      clear t_w t_w1 p1 p2
      go_wp2
      refine bodyPost_ret (v:=.agg #[.int .i64 { x.ch with got:=x4 }.cap,.int .i64 { x.ch with got:=x4 }.sent,.int .i64 { x.ch with got:=x4 }.got,.int .i64 { x.ch with got:=x4 }.fin,.slice a1 { x.ch with got:=x4 }.cells.length c1,.slice a2 x.ch.words.length c2]) (by simp [results,Try.results40,go_sem, *]) rfl ⟨⟨{ x.ch with got:=x4 },a1,c1,.slice a2 x.ch.words.length c2,rfl,?_,?_,?_,?_,?_,?_,?_⟩,?_,?_⟩
      · exact (OCells.segz (lo:=w.heap.size+1) (by (repeat (first|with_reducible exact o1|with_reducible refine World.ownsRow.alloc ?_ _|with_reducible refine World.ownsRow.drew ?_|((with_reducible refine own_store ?_ ?_ _);rotate_left;(focus (first|exact n1|exact m1))))))).1
      · exact (OCells.segz (lo:=w.heap.size+1) (by (repeat (first|with_reducible exact o1|with_reducible refine World.ownsRow.alloc ?_ _|with_reducible refine World.ownsRow.drew ?_|((with_reducible refine own_store ?_ ?_ _);rotate_left;(focus (first|exact n1|exact m1))))))).2
      · exact fun ad e=>Nat.le_of_succ_le (OCells.low OW.out.1 ad e)
      · exact own_lo (lo:=w.heap.size+1) (by (repeat (first|with_reducible exact o2|with_reducible refine World.ownsRow.alloc ?_ _|with_reducible refine World.ownsRow.drew ?_|((with_reducible refine own_store ?_ ?_ _);rotate_left;(focus (first|exact n2|exact m2)))))) (by omega)
      · exact hl1
      · exact hl2
      · exact off_blk OFF.out
      · (repeat (first|with_reducible assumption|with_reducible refine DS.alloc ?_|with_reducible refine DS.drew ?_|((with_reducible refine DS.setCell ?_ ?_ ?_);rotate_left;(focus ((try simp);(try omega)));(focus ((try simp);(try omega))))))
      · (repeat (first|with_reducible assumption|with_reducible exact gR _ _|with_reducible refine gA ?_|with_reducible refine gD ?_|((with_reducible refine gS ?_ (.inr ?_));rotate_left;(focus ((try simp);(try omega))))))
    · go_wp2_with fail;refine (l1Num_any B g 40  _ (by (repeat (first|with_reducible assumption|with_reducible refine DS.alloc ?_|with_reducible refine DS.drew ?_|((with_reducible refine DS.setCell ?_ ?_ ?_);rotate_left;(focus ((try simp);(try omega)));(focus ((try simp);(try omega)))))))  (by omega) (by omega)).mono ?_;rintro _ w4 ⟨⟨x4,rfl⟩,hdw4,hgw4⟩;have hGw4:Gr g w w4:=gT (by (repeat (first|with_reducible assumption|with_reducible exact gR _ _|with_reducible refine gA ?_|with_reducible refine gD ?_|((with_reducible refine gS ?_ (.inr ?_));rotate_left;(focus ((try simp);(try omega))))))) hgw4;have hlw4:=hdw4.lt;have hsw4:=hgw4.size;(try (simp at hsw4))
      have hzw4:=hgw4.size
      (try simp at hzw4)
      have t_w1:hp w4 w1.heap.size=some (.cells #[.int .i64 x.ch.cap,.int .i64 x.ch.sent,.int .i64 x.ch.got,.int .i64 x.ch.fin,.slice a1 x.ch.cells.length c1,.slice a2 x.ch.words.length c2] 27):=(grHp hgw4 (by (try simp) <;> (try omega)) mg1).trans (by simp [go_sem, *])
      have t_w:hp w4 w.heap.size=some (.cells #[.int .i64 0,.int .i64 0,.int .i64 0,.int .i64 0,.slice none 0 0,.slice none 0 0] 27):=(grHp hgw4 (by (try simp) <;> (try omega)) mg0).trans (by simp [go_sem, *])
      have p1:OCells w4 (w.heap.size+1) (.slice a1 x.ch.cells.length c1) x.ch.cells:=o1.kept hgw4 (.inr (own_ne OW.out.1 (by omega)))
      have p2:OInts w4 (w.heap.size+1) (.slice a2 x.ch.words.length c2) x.ch.words:=o2.kept hgw4 (.inr (own_ne OW.out.2.1 (by omega)))
      clear z_w z_w1 x_w x_w1 f_w f_w1 l_w l_w1 o1 o2
      have l_w:w.heap.size<w4.heap.size:=by omega
      have l_w1:w1.heap.size<w4.heap.size:=by omega
      have x_w:∀ o,w4.cell? ⟨w.heap.size,o,none⟩=_:=fun o=>cell_of_row w4 w.heap.size o _ _ _ t_w
      have x_w1:∀ o,w4.cell? ⟨w1.heap.size,o,none⟩=_:=fun o=>cell_of_row w4 w1.heap.size o _ _ _ t_w1
      have f_w:∀ o,w4.frozen? ⟨w.heap.size,o,none⟩=false:=heap_frozen t_w
      have f_w1:∀ o,w4.frozen? ⟨w1.heap.size,o,none⟩=false:=heap_frozen t_w1
      have z_w:=t_w
      have z_w1:=t_w1
      have o1:=p1
      have o2:=p2
      clear t_w t_w1 p1 p2
      go_wp2
      refine bodyPost_ret (v:=.agg #[.int .i64 { x.ch with fin:=x4 }.cap,.int .i64 { x.ch with fin:=x4 }.sent,.int .i64 { x.ch with fin:=x4 }.got,.int .i64 { x.ch with fin:=x4 }.fin,.slice a1 { x.ch with fin:=x4 }.cells.length c1,.slice a2 x.ch.words.length c2]) (by simp [results,Try.results40,go_sem, *]) rfl ⟨⟨{ x.ch with fin:=x4 },a1,c1,.slice a2 x.ch.words.length c2,rfl,?_,?_,?_,?_,?_,?_,?_⟩,?_,?_⟩
      · exact (OCells.segz (lo:=w.heap.size+1) (by (repeat (first|with_reducible exact o1|with_reducible refine World.ownsRow.alloc ?_ _|with_reducible refine World.ownsRow.drew ?_|((with_reducible refine own_store ?_ ?_ _);rotate_left;(focus (first|exact n1|exact m1))))))).1
      · exact (OCells.segz (lo:=w.heap.size+1) (by (repeat (first|with_reducible exact o1|with_reducible refine World.ownsRow.alloc ?_ _|with_reducible refine World.ownsRow.drew ?_|((with_reducible refine own_store ?_ ?_ _);rotate_left;(focus (first|exact n1|exact m1))))))).2
      · exact fun ad e=>Nat.le_of_succ_le (OCells.low OW.out.1 ad e)
      · exact own_lo (lo:=w.heap.size+1) (by (repeat (first|with_reducible exact o2|with_reducible refine World.ownsRow.alloc ?_ _|with_reducible refine World.ownsRow.drew ?_|((with_reducible refine own_store ?_ ?_ _);rotate_left;(focus (first|exact n2|exact m2)))))) (by omega)
      · exact hl1
      · exact hl2
      · exact off_blk OFF.out
      · (repeat (first|with_reducible assumption|with_reducible refine DS.alloc ?_|with_reducible refine DS.drew ?_|((with_reducible refine DS.setCell ?_ ?_ ?_);rotate_left;(focus ((try simp);(try omega)));(focus ((try simp);(try omega))))))
      · (repeat (first|with_reducible assumption|with_reducible exact gR _ _|with_reducible refine gA ?_|with_reducible refine gD ?_|((with_reducible refine gS ?_ (.inr ?_));rotate_left;(focus ((try simp);(try omega))))))
    · obtain ⟨g1,rfl,lg1,hg1,hcap,hcl,hfr⟩:=OCells.opens o1 (by rw [H40.out];omega)
      have hlen:(6:Int)≤(x.ch.cells.length:Int):=by rw [H40.out];omega
      have mgg:some g1≠some g:=by simp;omega
      have ng1:some w1.heap.size≠some g1:=fun e=>m1 (by simpa [Value.ownBlock] using e.symm)
      have ng0:some w.heap.size≠some g1:=fun e=>n1 (by simpa [Value.ownBlock] using e.symm)
      have hgg:g1<w3.heap.size:=hg1
      have ne1:w1.heap.size≠g1:=by simpa using ng1
      have ne2:g1≠w1.heap.size:=Ne.symm ne1
      have ne3:w.heap.size≠g1:=by simpa using ng0
      have ne4:g1≠w.heap.size:=Ne.symm ne3
      have OX1:=Lib.hid o1
      have OX2:=Lib.hid o2
      clear hcl hfr o1 o2
      go_wp2_with fail
      go_region_held3 (fun w'=>w'.cell? ⟨w1.heap.size,4,none⟩=some (.slice (some ⟨g1,0,none⟩) x.ch.cells.length c1))
        (first|(simp [*,go_sem]))
        (first|(go_at_call 59;refine (l1Below_any B g 6 _ (by (repeat (first|with_reducible assumption|with_reducible refine DS.alloc ?_|with_reducible refine DS.drew ?_|((with_reducible refine DS.setCell ?_ ?_ ?_);rotate_left;(focus ((try simp);(try omega)));(focus ((try simp);(try omega))))))) (by omega) (by omega)).mono ?_;rintro _ w4 ⟨⟨x4,rfl,h40,h41⟩,hd4,hg4⟩;have hG4:Gr g w w4:=gT (by (repeat (first|with_reducible assumption|with_reducible exact gR _ _|with_reducible refine gA ?_|with_reducible refine gD ?_|((with_reducible refine gS ?_ (.inr ?_));rotate_left;(focus ((try simp);(try omega))))))) hg4;have hK4:Gr g w3 w4:=gT (by (repeat (first|with_reducible assumption|with_reducible exact gR _ _|with_reducible refine gA ?_|with_reducible refine gD ?_|((with_reducible refine gS ?_ (.inr ?_));rotate_left;(focus ((try simp);(try omega))))))) hg4;obtain ⟨z,rfl⟩:=Int.eq_ofNat_of_zero_le h40;have hl4:=hd4.lt;have hsw4:=hg4.size;(try (simp at hsw4));have zz:=And.intro (grHp hg4 (b:=w1.heap.size) (by (try simp) <;> omega) (by assumption)) <| grHp hg4 (b:=w.heap.size) (by (try simp) <;> omega) (by assumption);(first|simp [go_sem,z_w1,z_w,l_w,l_w1] at zz|simp [go_sem] at zz|skip);(try clear z_w1 x_w1 f_w1 l_w1);(try clear z_w x_w f_w l_w);obtain ⟨z_w1,z_w⟩:=zz;obtain ⟨x_w1,f_w1,l_w1⟩:=bO z_w1;obtain ⟨x_w,f_w,l_w⟩:=bO z_w;have hz1:(z:Int)<(x.ch.cells.length:Int):=(by omega);have hz2:z<x.ch.cells.length:=(by omega))|(go_at_call 71;refine (l1DrawCell_any B g _ (by (repeat (first|with_reducible assumption|with_reducible refine DS.alloc ?_|with_reducible refine DS.drew ?_|((with_reducible refine DS.setCell ?_ ?_ ?_);rotate_left;(focus ((try simp);(try omega)));(focus ((try simp);(try omega)))))))).mono ?_;rintro _ w5 ⟨⟨ds,de,dt,rfl⟩,hd5,hg5⟩;have hG5:Gr g w w5:=gT (by (repeat (first|with_reducible assumption|with_reducible exact gR _ _|with_reducible refine gA ?_|with_reducible refine gD ?_|((with_reducible refine gS ?_ (.inr ?_));rotate_left;(focus ((try simp);(try omega))))))) hg5;have hK5:Gr g w3 w5:=gT (by (repeat (first|with_reducible assumption|with_reducible exact gR _ _|with_reducible refine gA ?_|with_reducible refine gD ?_|((with_reducible refine gS ?_ (.inr ?_));rotate_left;(focus ((try simp);(try omega))))))) hg5;have hl5:=hd5.lt;have hsw5:=hg5.size;(try (simp at hsw5));have zz:=And.intro (grHp hg5 (b:=w1.heap.size) (by (try simp) <;> omega) (by assumption)) <| grHp hg5 (b:=w.heap.size) (by (try simp) <;> omega) (by assumption);(first|simp [go_sem,z_w1,z_w,l_w,l_w1] at zz|simp [go_sem] at zz|skip);(try clear z_w1 x_w1 f_w1 l_w1);(try clear z_w x_w f_w l_w);obtain ⟨z_w1,z_w⟩:=zz;obtain ⟨x_w1,f_w1,l_w1⟩:=bO z_w1;obtain ⟨x_w,f_w,l_w⟩:=bO z_w;have q1:=OX1.out.kept hK5 (.inr (own_ne OW.out.1 (by omega)));have Q1:=Lib.hid q1;obtain ⟨_,_,eg,_,lg5,hcl5,hfr5⟩:=OCells.open1 q1 hz2;simp at eg;obtain ⟨rfl,rfl⟩:=eg;have kc0:=hcl5 0 (by omega);have kc1:=hcl5 1 (by omega);have kc2:=hcl5 2 (by omega);simp only [C3.val,Nat.add_zero] at kc0 kc1 kc2;clear hcl5 q1))
      have off2:=off_some (g:=g1) (own_off_ty OW.out.2.1 OW.out.1 (by decide)) rfl
      obtain ⟨w6,hw6⟩:∃ w6,w6=((w5.setCell ⟨g1,z*3,none⟩ (.int .i64 ds)).setCell ⟨g1,z*3+1,none⟩ (.int .i64 de)).setCell ⟨g1,z*3+2,none⟩ (.int .i64 dt):=⟨_,rfl⟩
      rw [← hw6]
      have o1:OCells w6 (w.heap.size+1) (.slice (some ⟨g1,0,none⟩) x.ch.cells.length c1) (x.ch.cells.set z ⟨ds,de,dt⟩):=by rw [hw6];exact OCells.set Q1.out hz2 ⟨ds,de,dt⟩
      have o2:OInts w6 (w.heap.size+1) (.slice a2 x.ch.words.length c2) x.ch.words:=by rw [hw6];exact own_store (own_store (own_store (OX2.out.kept hK5 (.inr (own_ne OW.out.2.1 (by omega)))) off2 _) off2 _) off2 _
      have hd6:DS w6 B g:=by rw [hw6];(repeat (first|with_reducible assumption|with_reducible refine DS.alloc ?_|with_reducible refine DS.drew ?_|((with_reducible refine DS.setCell ?_ ?_ ?_);rotate_left;(focus ((try simp);(try omega)));(focus ((try simp);(try omega))))))
      have hG6:Gr g w w6:=by rw [hw6];(repeat (first|with_reducible assumption|with_reducible exact gR _ _|with_reducible refine gA ?_|with_reducible refine gD ?_|((with_reducible refine gS ?_ (.inr ?_));rotate_left;(focus ((try simp);(try omega))))))
      have hg6:Gr g1 w5 w6:=by rw [hw6];exact gS (gS (gS (gR _ _) (.inl rfl)) (.inl rfl)) (.inl rfl)
      have hl6:=hd6.lt
      clear hw6 kc0 kc1 kc2 hfr5
      have hsw6:=hg6.size;(try (simp at hsw6));have zz:=And.intro (grHp hg6 (b:=w1.heap.size) (by (try simp) <;> omega) (by assumption)) <| grHp hg6 (b:=w.heap.size) (by (try simp) <;> omega) (by assumption);(first|simp [go_sem,z_w1,z_w,l_w,l_w1] at zz|simp [go_sem] at zz|skip);(try clear z_w1 x_w1 f_w1 l_w1);(try clear z_w x_w f_w l_w);obtain ⟨z_w1,z_w⟩:=zz;obtain ⟨x_w1,f_w1,l_w1⟩:=bO z_w1;obtain ⟨x_w,f_w,l_w⟩:=bO z_w
      clear hg6
      go_wp2
      refine bodyPost_ret (v:=.agg #[.int .i64 { x.ch with cells:=x.ch.cells.set z ⟨ds,de,dt⟩ }.cap,.int .i64 { x.ch with cells:=x.ch.cells.set z ⟨ds,de,dt⟩ }.sent,.int .i64 { x.ch with cells:=x.ch.cells.set z ⟨ds,de,dt⟩ }.got,.int .i64 { x.ch with cells:=x.ch.cells.set z ⟨ds,de,dt⟩ }.fin,.slice (some ⟨g1,0,none⟩) { x.ch with cells:=x.ch.cells.set z ⟨ds,de,dt⟩ }.cells.length c1,.slice a2 x.ch.words.length c2]) (by simp [results,Try.results40,go_sem, *]) rfl ⟨⟨{ x.ch with cells:=x.ch.cells.set z ⟨ds,de,dt⟩ },(some ⟨g1,0,none⟩),c1,.slice a2 x.ch.words.length c2,rfl,?_,?_,?_,?_,?_,?_,?_⟩,?_,?_⟩
      · exact (segz_set (lo:=w.heap.size+1) (by (repeat (first|with_reducible exact o1|with_reducible refine World.ownsRow.alloc ?_ _|with_reducible refine World.ownsRow.drew ?_|((with_reducible refine own_store ?_ ?_ _);rotate_left;(focus (first|exact n1|exact m1)))))))
      · exact fun e=>by cases e
      · exact fun ad e=>by cases e;simp only;omega
      · exact own_lo (lo:=w.heap.size+1) (by (repeat (first|with_reducible exact o2|with_reducible refine World.ownsRow.alloc ?_ _|with_reducible refine World.ownsRow.drew ?_|((with_reducible refine own_store ?_ ?_ _);rotate_left;(focus (first|exact n2|exact m2)))))) (by omega)
      · simpa using hl1
      · exact hl2
      · exact off_blk OFF.out
      · (repeat (first|with_reducible assumption|with_reducible refine DS.alloc ?_|with_reducible refine DS.drew ?_|((with_reducible refine DS.setCell ?_ ?_ ?_);rotate_left;(focus ((try simp);(try omega)));(focus ((try simp);(try omega))))))
      · (repeat (first|with_reducible assumption|with_reducible exact gR _ _|with_reducible refine gA ?_|with_reducible refine gD ?_|((with_reducible refine gS ?_ (.inr ?_));rotate_left;(focus ((try simp);(try omega))))))
    · obtain ⟨g1,rfl,lg1,hg1,hcap,hcl,hfr⟩:=OCells.opens o1 (by rw [H40.out];omega)
      have hlen:(1:Int)≤(x.ch.cells.length:Int):=by rw [H40.out];omega
      have hc1:x.ch.cells.length≤c1:=hcap
      have hc2:¬ c1=1:=by have:=H40.out;omega
      obtain ⟨kc,kcs,ek⟩:∃ kc kcs,x.ch.cells=kc :: kcs:=by
        cases he:x.ch.cells with
        | nil=>have:=H40.out;rw [he] at this;simp at this
        | cons kc kcs=>exact ⟨kc,kcs,rfl⟩
      have EK:=Lib.hid ek
      have OX1:=Lib.hid o1
      have OX2:=Lib.hid o2
      clear hcl hfr ek
      go_wp2
      have el:x.ch.cells.length - 1=kcs.length:=by rw [EK.out];simp
      rw [el]
      refine bodyPost_ret (v:=.agg #[.int .i64 { x.ch with cells:=kcs }.cap,.int .i64 { x.ch with cells:=kcs }.sent,.int .i64 { x.ch with cells:=kcs }.got,.int .i64 { x.ch with cells:=kcs }.fin,.slice (some ⟨g1,3,none⟩) { x.ch with cells:=kcs }.cells.length (c1 - 1),.slice a2 x.ch.words.length c2]) (by simp [results,Try.results40,go_sem, *]) rfl ⟨⟨{ x.ch with cells:=kcs },(some ⟨g1,3,none⟩),(c1 - 1),.slice a2 x.ch.words.length c2,rfl,?_,?_,?_,?_,?_,?_,?_⟩,?_,?_⟩
      · refine Seg.tail (c:=kc) (a:=⟨g1,0,none⟩) ?_ rfl rfl
        rw [← EK.out]
        exact (OCells.segz (lo:=w.heap.size+1) (by (repeat (first|with_reducible exact o1|with_reducible refine World.ownsRow.alloc ?_ _|with_reducible refine World.ownsRow.drew ?_|((with_reducible refine own_store ?_ ?_ _);rotate_left;(focus (first|exact n1|exact m1))))))).1
      · exact fun e=>by cases e
      · exact fun ad e=>by cases e;simp only;omega
      · exact own_lo (lo:=w.heap.size+1) (by (repeat (first|with_reducible exact o2|with_reducible refine World.ownsRow.alloc ?_ _|with_reducible refine World.ownsRow.drew ?_|((with_reducible refine own_store ?_ ?_ _);rotate_left;(focus (first|exact n2|exact m2)))))) (by omega)
      · have:=H40.out;rw [EK.out] at this;simp at this;simp only;omega
      · exact hl2
      · exact fun ad e=>by cases e;exact off_blk OFF.out ⟨g1,0,none⟩ rfl
      · (repeat (first|with_reducible assumption|with_reducible refine DS.alloc ?_|with_reducible refine DS.drew ?_|((with_reducible refine DS.setCell ?_ ?_ ?_);rotate_left;(focus ((try simp);(try omega)));(focus ((try simp);(try omega))))))
      · (repeat (first|with_reducible assumption|with_reducible exact gR _ _|with_reducible refine gA ?_|with_reducible refine gD ?_|((with_reducible refine gS ?_ (.inr ?_));rotate_left;(focus ((try simp);(try omega))))))
    · have OX1:=Lib.hid o1
      have OX2:=Lib.hid o2
      clear o1 o2
      obtain ⟨i0,hi0,hz0,hz1,hz2⟩:=info_parts infoInt
      have md0:some w.heap.size≠(Value.slice a2 x.ch.words.length c2).ownBlock:=Ne.symm n2
      have md1:some w1.heap.size≠(Value.slice a2 x.ch.words.length c2).ownBlock:=Ne.symm m2
      have off1:=own_off_ty OW.out.1 OW.out.2.1 (by decide)
      have lo2:=fun k (hk:(Value.slice a2 x.ch.words.length c2).ownBlock=some k)=>(OW.out.2.1.lt k hk).1
      go_wp2_with fail
      go_region_law (first|(go_simp;go_at_call 41;refine (l1From_any B g (-1) 3 _ (by (repeat (first|with_reducible assumption|with_reducible refine DS.alloc ?_|with_reducible refine DS.drew ?_|((with_reducible refine DS.setCell ?_ ?_ ?_);rotate_left;(focus ((try simp);(try omega)));(focus ((try simp);(try omega))))))) (by omega) (by omega) (by omega) (by omega)).mono ?_;rintro _ w4 ⟨⟨x4,rfl,h40,h41⟩,hd4,hg4⟩;have hG4:Gr g w w4:=gT (by (repeat (first|with_reducible assumption|with_reducible exact gR _ _|with_reducible refine gA ?_|with_reducible refine gD ?_|((with_reducible refine gS ?_ (.inr ?_));rotate_left;(focus ((try simp);(try omega))))))) hg4;have hK4:Gr g w3 w4:=gT (by (repeat (first|with_reducible assumption|with_reducible exact gR _ _|with_reducible refine gA ?_|with_reducible refine gD ?_|((with_reducible refine gS ?_ (.inr ?_));rotate_left;(focus ((try simp);(try omega))))))) hg4;have hl4:=hd4.lt;have hsw4:=hg4.size;(try (simp at hsw4));have zz:=And.intro (grHp hg4 (b:=w1.heap.size) (by (try simp) <;> omega) (by assumption)) <| grHp hg4 (b:=w.heap.size) (by (try simp) <;> omega) (by assumption);(first|simp [go_sem,z_w1,z_w,l_w,l_w1] at zz|simp [go_sem] at zz|skip);(try clear z_w1 x_w1 f_w1 l_w1);(try clear z_w x_w f_w l_w);obtain ⟨z_w1,z_w⟩:=zz;obtain ⟨x_w1,f_w1,l_w1⟩:=bO z_w1;obtain ⟨x_w,f_w,l_w⟩:=bO z_w;have q2:=OX2.out.kept hK4 (.inr (own_ne OW.out.2.1 (by omega)));have q1:=OX1.out.kept hK4 (.inr (own_ne OW.out.1 (by omega))))|(refine step_append_lies _ (by rfl) _ _ _ (by rfl) (w.heap.size+1) 2 i0 _ 1 8 Try.underlying25 hi0 hz0 hz1 hz2 rfl (by omega) (.slice a2 x.ch.words.length c2) _ _ (by rfl) (World.ownsRow.drew (World.ownsRow.alloc q2 _)) ⟨w4.heap.size,0,none⟩ 1 1 [.int .i64 x4] (by rfl) (by rfl) (World.news_of_block (cs:=#[.int .i64 x4]) (t:=2) (fr:=(0,0)) (heap_alloc_new w4 _)) (by simp [Value.oneCell']) (by omega) (by unfold maxLen;omega) (by omega) (by simp;omega) (w4.heap.size+1) (by simp) ?_;intro g8 q8 w8 o8 gr8 hat hlt8;have hsw8:=gr8.size;(try (simp at hsw8));have zz:=And.intro (grHp gr8 (b:=w1.heap.size) (by (try simp) <;> omega) (by assumption)) <| grHp gr8 (b:=w.heap.size) (by (try simp) <;> omega) (by assumption);(first|simp [go_sem,z_w1,z_w,l_w,l_w1] at zz|simp [go_sem] at zz|skip);(try clear z_w1 x_w1 f_w1 l_w1);(try clear z_w x_w f_w l_w);obtain ⟨z_w1,z_w⟩:=zz;obtain ⟨x_w1,f_w1,l_w1⟩:=bO z_w1;obtain ⟨x_w,f_w,l_w⟩:=bO z_w;have hd8:=DS.grown (DS.alloc hd4) gr8 (fun k hk=>by have:=lo2 k hk;omega);have hG8:=Gr.grown (gA hG4) gr8 (fun k hk=>by have:=lo2 k hk;omega);have o1:=(World.ownsRow.alloc q1 _).kept gr8 off1;have o2:OInts w8 (w.heap.size+1) (.slice (some ⟨g8,0,none⟩) (x.ch.words.length+1) q8) (x.ch.words ++ [x4]):=OInts.snoc o8;have hl8:=hd8.lt;have e8:∀ j,j<w4.heap.size+1→(Value.slice a2 x.ch.words.length c2).ownBlock≠some j→(Value.slice (some ⟨g8,0,none⟩) (x.ch.words.length+1) q8).ownBlock≠some j:=(fun j hj hn e=>by simp [Value.ownBlock] at e;rcases hat with hat|hat;exact hn (by rw [hat,e]);omega);clear o8 gr8))
      all_goals go_wp2
      all_goals (have n8:=e8 w.heap.size (by omega) n2;have m8:=e8 w1.heap.size (by omega) m2)
      all_goals refine bodyPost_ret (v:=.agg #[.int .i64 { x.ch with words:=x.ch.words ++ [x4] }.cap,.int .i64 { x.ch with words:=x.ch.words ++ [x4] }.sent,.int .i64 { x.ch with words:=x.ch.words ++ [x4] }.got,.int .i64 { x.ch with words:=x.ch.words ++ [x4] }.fin,.slice a1 { x.ch with words:=x.ch.words ++ [x4] }.cells.length c1,.slice (some ⟨g8,0,none⟩) (x.ch.words.length+1) q8]) (by simp [results,Try.results40,go_sem, *]) rfl ⟨⟨{ x.ch with words:=x.ch.words ++ [x4] },a1,c1,.slice (some ⟨g8,0,none⟩) (x.ch.words.length+1) q8,rfl,?_,?_,?_,?_,?_,?_,?_⟩,?_,?_⟩
      all_goals first|exact fun ad e=>Nat.le_of_succ_le (OCells.low OW.out.1 ad e)|skip
      all_goals first|exact hl1|(simp only [List.length_append,List.length_singleton];omega)|skip
      all_goals first|exact fun ad e=>e8 ad.block (by have:=b1 ad.block (by rw [e];rfl);omega) (off_blk OFF.out ad e)|skip
      all_goals first|(exact (OCells.segz (lo:=w.heap.size+1) (by (repeat (first|with_reducible exact o1|with_reducible refine World.ownsRow.alloc ?_ _|with_reducible refine World.ownsRow.drew ?_|((with_reducible refine own_store ?_ ?_ _);rotate_left;(focus (first|exact n1|exact m1))))))).1)|skip
      all_goals first|(exact (OCells.segz (lo:=w.heap.size+1) (by (repeat (first|with_reducible exact o1|with_reducible refine World.ownsRow.alloc ?_ _|with_reducible refine World.ownsRow.drew ?_|((with_reducible refine own_store ?_ ?_ _);rotate_left;(focus (first|exact n1|exact m1))))))).2)|skip
      all_goals first|((repeat (first|with_reducible assumption|with_reducible refine DS.alloc ?_|with_reducible refine DS.drew ?_|((with_reducible refine DS.setCell ?_ ?_ ?_);rotate_left;(focus ((try simp);(try omega)));(focus ((try simp);(try omega))))));done)|skip
      all_goals first|((repeat (first|with_reducible assumption|with_reducible exact gR _ _|with_reducible refine gA ?_|with_reducible refine gD ?_|((with_reducible refine gS ?_ (.inr ?_));rotate_left;(focus ((try simp);(try omega))))));done)|skip
      all_goals (refine own_lo (lo:=w.heap.size+1) ?_ (by omega);(repeat (first|with_reducible exact o2|with_reducible refine World.ownsRow.alloc ?_ _|with_reducible refine World.ownsRow.drew ?_|((with_reducible refine own_store ?_ ?_ _);rotate_left;(focus (first|exact n8|exact m8))))))
theorem l2DrawAny_any (B g:Nat) (w:World) (hd:DS w B g):Calls Try.prog 40 #[.pointer (some ⟨g,0,none⟩)] w fun r w'=>ChanD w' w.heap.size r∧DS w' B g∧Gr g w w' :=
  (l2DrawAny_all B g w hd).mono fun _ _ ⟨⟨c,a,p,v2,e,h1,h2,h3,h4,h5,h6,_⟩,hd,hg⟩=>⟨⟨c,a,p,v2,e,h1,h2,h3,h4,h5,h6⟩,hd,hg⟩
end Go.Proofs.Ytikhaaccgoiaeaa
