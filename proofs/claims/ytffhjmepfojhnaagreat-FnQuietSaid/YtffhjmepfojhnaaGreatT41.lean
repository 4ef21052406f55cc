/-
  The draw of a channel: at most 40 cells and 38 words, its words the call's own; only the cursor turns; the drawn bytes are at most 4096.
-/
import Derived.Test.YtffhjmepfojhnaaGreatT39
import Derived.Deep.RegionLaw
import Derived.Test.YtffhjmepfojhnaaGreatT04
import Derived.Test.YtffhjmepfojhnaaGreatT24
import Derived.Test.YtffhjmepfojhnaaGreatT16
import Derived.Test.YtffhjmepfojhnaaGreatT05
set_option maxRecDepth 100000
set_option maxHeartbeats 8000000
set_option linter.unusedSimpArgs false
set_option linter.unusedVariables false
namespace Go.Proofs.YtffhjmepfojhnaaGreat
open _root_.Go.Proofs.Tryz
section
open Go.RowKit
attribute [local simp] dz
attribute [local go_sem ↓] dA dO dP jv bK
attribute [local go_sem] iG
def Fz (w:World) (n:Nat) (a:Option Addr):Prop:=n=0∨∃ ad,a=some ad∧ad.block<w.heap.size∧∀ o,w.frozen? ⟨ad.block,o,none⟩=false
theorem Fz.grown {w w':World} {n:Nat} {a:Option Addr} {r:Option Nat} (h:Fz w n a) (H:w.grownBy w' r) (hr:∀ F,a=some F→r≠some F.block):Fz w' n a:=by
 rcases h with h|⟨F,e,G,I⟩
 ·exact .inl h
 ·exact .inr ⟨F,e,Nat.lt_of_lt_of_le G H.size,fun o=>(World.frozen?_of_block (a:=⟨F.block,o,none⟩) (H.block F.block G (fun k=>hr F e k.symm))).trans (I o)⟩
theorem Fz.below {w w':World} {n:Nat} {a:Option Addr} (h:Fz w n a) (F:Below w w w'):Fz w' n a:=h.grown (r:=none) ⟨F.os,F.tape,F.output,F.size,fun i G _=>F.block i G⟩ (fun _ _ k=>nomatch k)
theorem Fz.own {w:World} {lo k n p:Nat} {t:TypeId} {a:Option Addr} {I:List Value} (h:w.ownsRow lo t k (.slice a n p) n I):Fz w n a:=by
 rcases h.2 with ⟨_,H⟩|⟨g,cap,G,e,J,F,hc,_⟩
 ·exact .inl H
 ·simp at e
  obtain ⟨rfl,rfl⟩:=e;exact .inr ⟨_,rfl,(Array.getElem?_eq_some_iff.1 F).1,fun o=>by simp [World.frozen?,F]⟩
def Ih (w:World) (B:Nat) (a:Option Addr) (cs:List C3):Prop:=gG w B a cs∧Fz w cs.length a
def VM (w':World) (lo:Nat) (r:Ending):Prop:=∃ (c:Ch) (a:Option Addr) (p:Nat) (v2:Value),r=.returned (.agg #[c.cap,c.sent,c.got,c.fin,.slice a c.cells p,v2])∧Ih w' w' a c.cells∧(a=none→p=0)∧(∀ ad,a=some ad→lo≤ad.block)∧aI w' lo v2 c.words∧c.cells.length≤40∧c.words.length≤38
def VN (w':World) (lo:Nat) (r:Ending):Prop:=∃ (c:Ch) (a:Option Addr) (p:Nat) (v2:Value),r=.returned (.agg #[c.cap,c.sent,c.got,c.fin,.slice a c.cells p,v2])∧Ih w' w' a c.cells∧(a=none→p=0)∧(∀ ad,a=some ad→lo≤ad.block)∧aI w' lo v2 c.words∧c.cells.length≤40∧c.words.length≤38∧∀ ad,a=some ad→v2.ownBlock≠some ad.block
theorem qc {a:Option Addr} {n p:Nat} {v2:Value} (h:(Value.slice a n p).ownBlock=none∨(Value.slice a n p).ownBlock≠v2.ownBlock) (F:Addr) (e:a=some F):v2.ownBlock≠some F.block:=by
 subst e;rcases h with h|h
 ·simp [Value.ownBlock] at h
 ·exact fun k=>h (by rw [k];rfl)
theorem DS.grown {w w':World} {B g:Nat} {row:Option Nat} (h:DS w B g) (F:w.grownBy w' row) (hr:∀ k,row=some k→g<k):DS w' B g :=
 h.keep (F.block g h.lt (fun e=>by have:=hr _ e.symm;omega)) (mO (Below.refl _ _) F (by have:=h.le;have:=h.lt;omega) (fun k G=>by have:=hr k G;have:=h.le;omega))
theorem Gr.grown {w W w':World} {g:Nat} {row:Option Nat} (h:Gr g w W) (F:W.grownBy w' row) (hr:∀ k,row=some k→w.heap.size≤k):Gr g w w' :=
 ⟨F.os.trans h.os,F.tape.trans h.tape,F.output.trans h.output,Nat.le_trans h.size F.size,fun i G H=>(F.block i (Nat.lt_of_lt_of_le G h.size) (fun e=>by have:=hr _ e.symm;omega)).trans (h.block i G H)⟩
theorem aF.opens {w:World} {lo p:Nat} {a:Option Addr} {cs:List C3} (h:aF w lo (.slice a cs.length p) cs) (L:0<cs.length):∃ g,a=some ⟨g,0,none⟩∧lo≤g∧g<w.heap.size∧cs.length≤p∧(∀ i j,i<cs.length→j<3→w.cell? ⟨g,i*3+j,none⟩=some (jy cs i j))∧∀ o,w.frozen? ⟨g,o,none⟩=false:=by
 have h2:=h;rcases h.2 with ⟨_,K⟩|⟨g,cap,G,e,J,F,hc,_⟩
 ·omega
 ·simp at e
  obtain ⟨rfl,rfl⟩:=e;refine ⟨g,rfl,J,(Array.getElem?_eq_some_iff.1 F).1,hc,fun i j H I=>?_,fun o=>by simp [World.frozen?,F]⟩;have:=h2.cells (g:=g) rfl (i*3+j) _ (kR cs i j H I);rw [← this];congr 1;by_cases e:i*3+j=0 <;> simp [Addr.add,e] <;> omega
theorem aF.low {w:World} {lo p:Nat} {a:Option Addr} {cs:List C3} (h:aF w lo (.slice a cs.length p) cs) (F:Addr) (e:a=some F):lo≤F.block:=by
 subst e;exact (h.lt F.block rfl).1
theorem aF.segz {w:World} {lo p:Nat} {a:Option Addr} {cs:List C3} (h:aF w lo (.slice a cs.length p) cs):Ih w w a cs∧(a=none→p=0):=by
 obtain ⟨I,J,e,hs,H⟩:=oZ h fun i j F G=>kR cs i j F G
 simp at e;obtain ⟨rfl,rfl⟩:=e;exact ⟨⟨hs,Fz.own h⟩,fun h=>(H h).2⟩
theorem aI.segz {w:World} {lo p:Nat} {a:Option Addr} {l:List Int} (h:aI w lo (.slice a l.length p) l):gI w w a l∧(a=none→p=0):=by
 obtain ⟨H,J,e,hs,G⟩:=oZ (f:=lG l) h fun i j F I=>by
  have:j=0:=by omega
  subst this;simp [ints,lG,List.getD,F]
 simp at e;obtain ⟨rfl,rfl⟩:=e;exact ⟨hs,fun h=>(G h).2⟩
theorem QN {w:World} {lo p z:Nat} {g:Nat} {cs:List C3} {c:C3} (h:aF w lo (.slice (some ⟨g,0,none⟩) cs.length p) (cs.set z c)):Ih w w (some ⟨g,0,none⟩) (cs.set z c):=by
 have e:cs.length=(cs.set z c).length:=by simp
 rw [e] at h;exact (aF.segz h).1
theorem Seg.tail {w:World} {B k:Nat} {a:Addr} {c:C3} {cs:List C3} (h:Seg w B (some a) (c :: cs).length 3 (jy (c :: cs))) (H:k=a.off+3) (hs:a.spot=none):Seg w B (some ⟨a.block,k,none⟩) cs.length 3 (jy cs):=by
 rcases h with h|⟨b,o,e,F,hc⟩
 ·simp at h
 ·simp at e
  subst e;refine .inr ⟨b,k,rfl,F,fun i j I G=>?_⟩;have:=hc (i+1) j dQ G;simp [jy] at this ⊢;rw [← this];congr 2;simp at H;omega
theorem Ih.tail {w:World} {B k:Nat} {a:Addr} {c:C3} {cs:List C3} (h:Ih w B (some a) (c :: cs)) (H:k=a.off+3) (hs:a.spot=none):Ih w B (some ⟨a.block,k,none⟩) cs:=by
 refine ⟨Seg.tail h.1 H hs,?_⟩;rcases h.2 with h|⟨I,e,F,G⟩
 ·simp at h
 ·cases e
  exact .inr ⟨_,rfl,F,G⟩
theorem NM (F G H I J:Int) (v1 v2 v3 v4:Value) (w:World):(Instr.field 35 (.agg #[.int .i64 F,.int .i64 G,.int .i64 H,.int .i64 I,v1,v2,v3,v4,.int .i64 J]) 0).run prog w=.ok (.agg #[.int .i64 F,.int .i64 G,.int .i64 H,.int .i64 I,v1,v2]) w:=by kernel_rfl
theorem Cy (B g:Nat) (w:World) (hd:DS w B g):Calls prog 166 #[.pointer (some ⟨g,0,none⟩)] w fun r w'=>VN w' w r∧DS w' B g∧Gr g w w':=by
 have hl:=hd.lt;have d2:=hd.le;have aj:some w.heap.size≠some g:=by simp;omega
 go_enter func166,ntmps166
 go_wp2_with fail;refine (yV B g  _ zD ).mono ?_;rintro _ R ⟨⟨x,v1,v2,v3,v4,rfl,al,hx,d4,_⟩,b9,ae⟩;have ci:Gr g w R:=gT lY ae;have cn:=b9.lt;have aq:=ae.size;(try (simp at aq))
 have aq:=ae.size;(try (simp at aq));have zz:=bM ae (b:=w) tS dM;(try simp [go_sem] at zz);(try clear J U T O);have J:=zz;clear zz;obtain ⟨U,T,O⟩:=bO J;replace al:dG R (w+1) v1 v2 v3 v4 x:=by simpa using al
 have Y:=aA al;obtain ⟨a1,Z,a3,a4,c1,c2,c3,c4,rfl,rfl,rfl,rfl,_⟩:=al.opens;have cx:=NM;have ac:=aA (dF Y.out.1 Y.out.2.1 cB);have ab:=aA (nK hx.ch).1;have ag:x.ch.cells.length≤40:=by rw [ab.out];omega
 have ah:x.ch.words.length≤38:=tO;have am:some R.heap.size≠some g:=by simp;omega
 have d3:w<R.heap.size:=tO;clear J T U;have J:hp R w=some (.cells #[.int .i64 0,.int .i64 0,.int .i64 0,.int .i64 0,.slice none 0 0,.slice none 0 0] 31):=(bM ae cK aj).trans qz;have b1:∀ j,(Value.slice a1 x.ch.cells c1).ownBlock=some j→j<R.heap.size:=fun j hj=>(Y.out.1.lt j hj).2
 have b2:∀ j,(Value.slice Z x.ch.words c2).ownBlock=some j→j<R.heap.size:=fun j hj=>(Y.out.2.1.lt j hj).2
 have m1:(Value.slice a1 x.ch.cells c1).ownBlock≠some R.heap.size:=fun e=>by have:=b1 _ e;omega
 have m2:(Value.slice Z x.ch.words c2).ownBlock≠some R.heap.size:=fun e=>by have:=b2 _ e;omega
 have n2:(Value.slice Z x.ch.words c2).ownBlock≠some w.heap.size:=own_ne Y.out.2.1 tO;have n1:(Value.slice a1 x.ch.cells c1).ownBlock≠some w.heap.size:=own_ne Y.out.1 tO;go_wp2_with fail;refine (jM B g 6  _ zD  tO tO).mono ?_;rintro _ w2 ⟨⟨y2,rfl⟩,ba,a7⟩;have cj:Gr g w w2:=gT lY a7;have cp:=ba.lt;have bg:=a7.size;(try (simp at bg));have bm:=a7.size
 (try simp at bm)
 have H:hp w2 R=some (.cells #[x.ch.cap,x.ch.sent,x.ch.got,x.ch.fin,.slice a1 x.ch.cells c1,.slice Z x.ch.words c2] 31):=(bM a7 oC am).trans tY;have N:hp w2 w=some (.cells #[.int .i64 0,.int .i64 0,.int .i64 0,.int .i64 0,.slice none 0 0,.slice none 0 0] 31):=(bM a7 oC aj).trans tY;have p1:aF w2 (w+1) (.slice a1 x.ch.cells c1) x.ch.cells:=(World.ownsRow.alloc Y.out.1 _).kept a7 (.inr (own_ne Y.out.1 tO))
 have p2:aI w2 (w+1) (.slice Z x.ch.words c2) x.ch.words:=(World.ownsRow.alloc Y.out.2.1 _).kept a7 (.inr (own_ne Y.out.2.1 tO));clear J O;have O:w<w2.heap.size:=tO;have I:R<w2.heap.size:=tO;have U:∀ o,w2.cell? ⟨w,o,none⟩=_:=fun o=>cell_of_row w2 w o _ _ _ N
 have M:∀ o,w2.cell? ⟨R,o,none⟩=_:=fun o=>cell_of_row w2 R o _ _ _ H
 have T:∀ o,w2.frozen? ⟨w,o,none⟩=false:=dJ N;have L:∀ o,w2.frozen? ⟨R,o,none⟩=false:=dJ H;have J:=N;have G:=H;have V:=p1;have o2:=p2;clear N H p1 p2;cases y2
 ·go_wp2
  refine bodyPost_ret (v:=.agg #[x.ch.cap,x.ch.sent,x.ch.got,x.ch.fin,.slice a1 x.ch.cells c1,.slice Z x.ch.words c2]) yg rfl ⟨⟨x.ch,a1,c1,.slice Z x.ch.words c2,rfl,?_,?_,?_,?_,?_,?_,?_⟩,?_,?_⟩
  ·exact (aF.segz (lo:=w+1) wN).1
  ·exact (aF.segz (lo:=w+1) wN).2
  ·exact fun ad e=>Nat.le_of_succ_le (aF.low Y.out.1 ad e)
  ·exact aL (lo:=w+1) zF tO
  ·exact ag
  ·exact ah
  ·exact qc ac.out
  ·exact zD
  ·exact lY
 ·go_wp2_with fail;refine (fJ B g 7  _ zD  tO tO).mono ?_;rintro _ w3 ⟨⟨x3,rfl,bu,bv⟩,bb,a8⟩;have ck:Gr g w w3:=gT lY a8;have cq:=bb.lt;have bh:=a8.size;(try (simp at bh))
  have bn:=a8.size
  (try simp at bn)
  have H:hp w3 R=some (.cells #[x.ch.cap,x.ch.sent,x.ch.got,x.ch.fin,.slice a1 x.ch.cells c1,.slice Z x.ch.words c2] 31):=(bM a8 oC am).trans tY;have N:hp w3 w=some (.cells #[.int .i64 0,.int .i64 0,.int .i64 0,.int .i64 0,.slice none 0 0,.slice none 0 0] 31):=(bM a8 oC aj).trans tY;have p1:aF w3 (w+1) (.slice a1 x.ch.cells c1) x.ch.cells:=V.kept a8 (.inr (own_ne Y.out.1 tO));have p2:aI w3 (w+1) (.slice Z x.ch.words c2) x.ch.words:=o2.kept a8 (.inr (own_ne Y.out.2.1 tO))
  clear J G U M T L O I V o2;have O:w<w3.heap.size:=tO;have I:R<w3.heap.size:=tO;have U:∀ o,w3.cell? ⟨w,o,none⟩=_:=fun o=>cell_of_row w3 w o _ _ _ N
  have M:∀ o,w3.cell? ⟨R,o,none⟩=_:=fun o=>cell_of_row w3 R o _ _ _ H
  have T:∀ o,w3.frozen? ⟨w,o,none⟩=false:=dJ N;have L:∀ o,w3.frozen? ⟨R,o,none⟩=false:=dJ H;have J:=N;have G:=H;have V:=p1;have o2:=p2;clear N H p1 p2;have ca:x3=0∨x3=1∨x3=2∨x3=3∨x3=4∨x3=5∨x3=6:=tO;clear bu bv;rcases ca with rfl|rfl|rfl|rfl|rfl|rfl|rfl
  ·go_wp2_with fail;refine (nG B g 4  _ zD  tO tO).mono ?_;rintro _ K ⟨⟨X,rfl⟩,a5,F⟩;have an:Gr g w K:=gT lY F;have ap:=a5.lt;have a0:=F.size;(try (simp at a0))
   have a9:=F.size
   (try simp at a9)
   have H:hp K R=some (.cells #[x.ch.cap,x.ch.sent,x.ch.got,x.ch.fin,.slice a1 x.ch.cells c1,.slice Z x.ch.words c2] 31):=(bM F oC am).trans tY;have N:hp K w=some (.cells #[.int .i64 0,.int .i64 0,.int .i64 0,.int .i64 0,.slice none 0 0,.slice none 0 0] 31):=(bM F oC aj).trans tY;have p1:aF K (w+1) (.slice a1 x.ch.cells c1) x.ch.cells:=V.kept F (.inr (own_ne Y.out.1 tO));have p2:aI K (w+1) (.slice Z x.ch.words c2) x.ch.words:=o2.kept F (.inr (own_ne Y.out.2.1 tO))
   clear J G U M T L O I V o2;have O:w<K.heap.size:=tO;have I:R<K.heap.size:=tO;have U:∀ o,K.cell? ⟨w,o,none⟩=_:=fun o=>cell_of_row K w o _ _ _ N
   have M:∀ o,K.cell? ⟨R,o,none⟩=_:=fun o=>cell_of_row K R o _ _ _ H
   have T:∀ o,K.frozen? ⟨w,o,none⟩=false:=dJ N;have L:∀ o,K.frozen? ⟨R,o,none⟩=false:=dJ H;have J:=N;have G:=H;have V:=p1;have o2:=p2;clear N H p1 p2;go_wp2;refine bodyPost_ret (v:=.agg #[.int .i64 { x.ch with cap:=X }.cap,.int .i64 { x.ch with cap:=X }.sent,.int .i64 { x.ch with cap:=X }.got,.int .i64 { x.ch with cap:=X }.fin,.slice a1 { x.ch with cap:=X }.cells.length c1,.slice Z x.ch.words c2]) yg rfl ⟨⟨{ x.ch with cap:=X },a1,c1,.slice Z x.ch.words c2,rfl,?_,?_,?_,?_,?_,?_,?_⟩,?_,?_⟩
   ·exact (aF.segz (lo:=w+1) wN).1
   ·exact (aF.segz (lo:=w+1) wN).2
   ·exact fun ad e=>Nat.le_of_succ_le (aF.low Y.out.1 ad e)
   ·exact aL (lo:=w+1) zF tO
   ·exact ag
   ·exact ah
   ·exact qc ac.out
   ·exact zD
   ·exact lY
  ·go_wp2_with fail;refine (nG B g 40  _ zD  tO tO).mono ?_;rintro _ K ⟨⟨X,rfl⟩,a5,F⟩;have an:Gr g w K:=gT lY F;have ap:=a5.lt;have a0:=F.size;(try (simp at a0))
   have a9:=F.size
   (try simp at a9)
   have H:hp K R=some (.cells #[x.ch.cap,x.ch.sent,x.ch.got,x.ch.fin,.slice a1 x.ch.cells c1,.slice Z x.ch.words c2] 31):=(bM F oC am).trans tY;have N:hp K w=some (.cells #[.int .i64 0,.int .i64 0,.int .i64 0,.int .i64 0,.slice none 0 0,.slice none 0 0] 31):=(bM F oC aj).trans tY;have p1:aF K (w+1) (.slice a1 x.ch.cells c1) x.ch.cells:=V.kept F (.inr (own_ne Y.out.1 tO));have p2:aI K (w+1) (.slice Z x.ch.words c2) x.ch.words:=o2.kept F (.inr (own_ne Y.out.2.1 tO))
   clear J G U M T L O I V o2;have O:w<K.heap.size:=tO;have I:R<K.heap.size:=tO;have U:∀ o,K.cell? ⟨w,o,none⟩=_:=fun o=>cell_of_row K w o _ _ _ N
   have M:∀ o,K.cell? ⟨R,o,none⟩=_:=fun o=>cell_of_row K R o _ _ _ H
   have T:∀ o,K.frozen? ⟨w,o,none⟩=false:=dJ N;have L:∀ o,K.frozen? ⟨R,o,none⟩=false:=dJ H;have J:=N;have G:=H;have V:=p1;have o2:=p2;clear N H p1 p2;go_wp2;refine bodyPost_ret (v:=.agg #[.int .i64 { x.ch with sent:=X }.cap,.int .i64 { x.ch with sent:=X }.sent,.int .i64 { x.ch with sent:=X }.got,.int .i64 { x.ch with sent:=X }.fin,.slice a1 { x.ch with sent:=X }.cells.length c1,.slice Z x.ch.words c2]) yg rfl ⟨⟨{ x.ch with sent:=X },a1,c1,.slice Z x.ch.words c2,rfl,?_,?_,?_,?_,?_,?_,?_⟩,?_,?_⟩
   ·exact (aF.segz (lo:=w+1) wN).1
   ·exact (aF.segz (lo:=w+1) wN).2
   ·exact fun ad e=>Nat.le_of_succ_le (aF.low Y.out.1 ad e)
   ·exact aL (lo:=w+1) zF tO
   ·exact ag
   ·exact ah
   ·exact qc ac.out
   ·exact zD
   ·exact lY
  ·go_wp2_with fail;refine (nG B g 40  _ zD  tO tO).mono ?_;rintro _ K ⟨⟨X,rfl⟩,a5,F⟩;have an:Gr g w K:=gT lY F;have ap:=a5.lt;have a0:=F.size;(try (simp at a0))
   have a9:=F.size
   (try simp at a9)
   have H:hp K R=some (.cells #[x.ch.cap,x.ch.sent,x.ch.got,x.ch.fin,.slice a1 x.ch.cells c1,.slice Z x.ch.words c2] 31):=(bM F oC am).trans tY;have N:hp K w=some (.cells #[.int .i64 0,.int .i64 0,.int .i64 0,.int .i64 0,.slice none 0 0,.slice none 0 0] 31):=(bM F oC aj).trans tY;have p1:aF K (w+1) (.slice a1 x.ch.cells c1) x.ch.cells:=V.kept F (.inr (own_ne Y.out.1 tO));have p2:aI K (w+1) (.slice Z x.ch.words c2) x.ch.words:=o2.kept F (.inr (own_ne Y.out.2.1 tO))
   clear J G U M T L O I V o2;have O:w<K.heap.size:=tO;have I:R<K.heap.size:=tO;have U:∀ o,K.cell? ⟨w,o,none⟩=_:=fun o=>cell_of_row K w o _ _ _ N
   have M:∀ o,K.cell? ⟨R,o,none⟩=_:=fun o=>cell_of_row K R o _ _ _ H
   have T:∀ o,K.frozen? ⟨w,o,none⟩=false:=dJ N;have L:∀ o,K.frozen? ⟨R,o,none⟩=false:=dJ H;have J:=N;have G:=H;have V:=p1;have o2:=p2;clear N H p1 p2;go_wp2;refine bodyPost_ret (v:=.agg #[.int .i64 { x.ch with got:=X }.cap,.int .i64 { x.ch with got:=X }.sent,.int .i64 { x.ch with got:=X }.got,.int .i64 { x.ch with got:=X }.fin,.slice a1 { x.ch with got:=X }.cells.length c1,.slice Z x.ch.words c2]) yg rfl ⟨⟨{ x.ch with got:=X },a1,c1,.slice Z x.ch.words c2,rfl,?_,?_,?_,?_,?_,?_,?_⟩,?_,?_⟩
   ·exact (aF.segz (lo:=w+1) wN).1
   ·exact (aF.segz (lo:=w+1) wN).2
   ·exact fun ad e=>Nat.le_of_succ_le (aF.low Y.out.1 ad e)
   ·exact aL (lo:=w+1) zF tO
   ·exact ag
   ·exact ah
   ·exact qc ac.out
   ·exact zD
   ·exact lY
  ·go_wp2_with fail;refine (nG B g 40  _ zD  tO tO).mono ?_;rintro _ K ⟨⟨X,rfl⟩,a5,F⟩;have an:Gr g w K:=gT lY F;have ap:=a5.lt;have a0:=F.size;(try (simp at a0))
   have a9:=F.size
   (try simp at a9)
   have H:hp K R=some (.cells #[x.ch.cap,x.ch.sent,x.ch.got,x.ch.fin,.slice a1 x.ch.cells c1,.slice Z x.ch.words c2] 31):=(bM F oC am).trans tY;have N:hp K w=some (.cells #[.int .i64 0,.int .i64 0,.int .i64 0,.int .i64 0,.slice none 0 0,.slice none 0 0] 31):=(bM F oC aj).trans tY;have p1:aF K (w+1) (.slice a1 x.ch.cells c1) x.ch.cells:=V.kept F (.inr (own_ne Y.out.1 tO));have p2:aI K (w+1) (.slice Z x.ch.words c2) x.ch.words:=o2.kept F (.inr (own_ne Y.out.2.1 tO))
   clear J G U M T L O I V o2;have O:w<K.heap.size:=tO;have I:R<K.heap.size:=tO;have U:∀ o,K.cell? ⟨w,o,none⟩=_:=fun o=>cell_of_row K w o _ _ _ N
   have M:∀ o,K.cell? ⟨R,o,none⟩=_:=fun o=>cell_of_row K R o _ _ _ H
   have T:∀ o,K.frozen? ⟨w,o,none⟩=false:=dJ N;have L:∀ o,K.frozen? ⟨R,o,none⟩=false:=dJ H;have J:=N;have G:=H;have V:=p1;have o2:=p2;clear N H p1 p2;go_wp2;refine bodyPost_ret (v:=.agg #[.int .i64 { x.ch with fin:=X }.cap,.int .i64 { x.ch with fin:=X }.sent,.int .i64 { x.ch with fin:=X }.got,.int .i64 { x.ch with fin:=X }.fin,.slice a1 { x.ch with fin:=X }.cells.length c1,.slice Z x.ch.words c2]) yg rfl ⟨⟨{ x.ch with fin:=X },a1,c1,.slice Z x.ch.words c2,rfl,?_,?_,?_,?_,?_,?_,?_⟩,?_,?_⟩
   ·exact (aF.segz (lo:=w+1) wN).1
   ·exact (aF.segz (lo:=w+1) wN).2
   ·exact fun ad e=>Nat.le_of_succ_le (aF.low Y.out.1 ad e)
   ·exact aL (lo:=w+1) zF tO
   ·exact ag
   ·exact ah
   ·exact qc ac.out
   ·exact zD
   ·exact lY
  ·obtain ⟨g1,rfl,cc,be,b0,b4,b5⟩:=aF.opens V (by rw [ab.out];omega)
   have bf:(6:Int)≤(x.ch.cells.length:Int):=by rw [ab.out];omega
   have d8:some g1≠some g:=by simp;omega
   have cg:some R.heap.size≠some g1:=fun e=>m1 (by simpa [Value.ownBlock] using e.symm)
   have cf:some w.heap.size≠some g1:=fun e=>n1 (by simpa [Value.ownBlock] using e.symm)
   have cy:g1<w3.heap.size:=be;have cd:R.heap.size≠g1:=by simpa using cg
   have d9:g1≠R.heap.size:=Ne.symm cd;have ce:w.heap.size≠g1:=by simpa using cf
   have da:g1≠w.heap.size:=Ne.symm ce;have au:=aA V;have av:=aA o2;clear b4 b5 V o2;go_wp2_with fail
   go_region_held3 (fun w'=>w'.cell? ⟨R,4,none⟩=some (.slice (some ⟨g1,0,none⟩) x.ch.cells c1))
    (first|(simp [*,go_sem]))
    (first|(go_at_call 66;refine (fJ B g 6 _ zD tO tO).mono ?_;rintro _ K ⟨⟨X,rfl,b6,bw⟩,ax,a6⟩;have b7:Gr g w K:=gT lY a6;have b3:Gr g w3 K:=gT lY a6;obtain ⟨z,rfl⟩:=Int.eq_ofNat_of_zero_le b6;have c9:=ax.lt;have a0:=a6.size;(try (simp at a0));have zz:=And.intro (bM a6 (b:=R) tS dM) <| bM a6 (b:=w) tS dM;(first|simp [go_sem,G,J,O,I] at zz|simp [go_sem] at zz|skip);(try clear G M L I);(try clear J U T O);obtain ⟨G,J⟩:=zz;obtain ⟨M,L,I⟩:=bO G;obtain ⟨U,T,O⟩:=bO J;have bl:(z:Int)<(x.ch.cells.length:Int):=tO;have az:z<x.ch.cells.length:=tO)|(go_at_call 188;refine (Aj B g _ zD).mono ?_;rintro _ w5 ⟨⟨ds,de,dt,rfl⟩,bx,ao⟩;have cr:Gr g w w5:=gT lY ao;have b8:Gr g w3 w5:=gT lY ao;have cz:=bx.lt;have bi:=ao.size;(try (simp at bi));have zz:=And.intro (bM ao (b:=R) tS dM) <| bM ao (b:=w) tS dM;(first|simp [go_sem,G,J,O,I] at zz|simp [go_sem] at zz|skip);(try clear G M L I);(try clear J U T O);obtain ⟨G,J⟩:=zz;obtain ⟨M,L,I⟩:=bO G;obtain ⟨U,T,O⟩:=bO J;have q1:=au.out.kept b8 (.inr (own_ne Y.out.1 tO));have Q1:=aA q1;obtain ⟨_,_,eg,_,d5,ak,bc⟩:=aF.open1 q1 az;simp at eg;obtain ⟨rfl,rfl⟩:=eg;have bo:=ak 0 tO;have bp:=ak 1 tO;have bq:=ak 2 tO;simp only [C3.val,Nat.add_zero] at bo bp bq;clear ak q1))
   have ar:=jd (g:=g1) (dF Y.out.2.1 Y.out.1 cB) rfl;obtain ⟨w6,ai⟩:∃ w6,w6=((w5.setCell ⟨g1,z*3,none⟩ (.int .i64 ds)).setCell ⟨g1,z*3+1,none⟩ (.int .i64 de)).setCell ⟨g1,z*3+2,none⟩ (.int .i64 dt):=⟨_,rfl⟩;rw [← ai];have V:aF w6 (w+1) (.slice (some ⟨g1,0,none⟩) x.ch.cells c1) (x.ch.cells.set z ⟨ds,de,dt⟩):=by rw [ai];exact aF.set Q1.out az ⟨ds,de,dt⟩
   have o2:aI w6 (w+1) (.slice Z x.ch.words c2) x.ch.words:=by rw [ai];exact aV (aV (aV (av.out.kept b8 (.inr (own_ne Y.out.2.1 tO))) ar _) ar _) ar _
   have c6:DS w6 B g:=by rw [ai];exact zD
   have ct:Gr g w w6:=by rw [ai];exact lY
   have ay:Gr g1 w5 w6:=by rw [ai];exact gS (gS (gS (gR _ _) (.inl rfl)) (.inl rfl)) (.inl rfl)
   have d0:=c6.lt;clear ai bo bp bq bc;have bj:=ay.size;(try (simp at bj));have zz:=And.intro (bM ay (b:=R) tS dM) <| bM ay (b:=w) tS dM;(first|simp [go_sem,G,J,O,I] at zz|simp [go_sem] at zz|skip);(try clear G M L I);(try clear J U T O);obtain ⟨G,J⟩:=zz;obtain ⟨M,L,I⟩:=bO G;obtain ⟨U,T,O⟩:=bO J
   clear ay;go_wp2;refine bodyPost_ret (v:=.agg #[.int .i64 { x.ch with cells:=x.ch.cells.set z ⟨ds,de,dt⟩ }.cap,.int .i64 { x.ch with cells:=x.ch.cells.set z ⟨ds,de,dt⟩ }.sent,.int .i64 { x.ch with cells:=x.ch.cells.set z ⟨ds,de,dt⟩ }.got,.int .i64 { x.ch with cells:=x.ch.cells.set z ⟨ds,de,dt⟩ }.fin,.slice (some ⟨g1,0,none⟩) { x.ch with cells:=x.ch.cells.set z ⟨ds,de,dt⟩ }.cells.length c1,.slice Z x.ch.words c2]) yg rfl ⟨⟨{ x.ch with cells:=x.ch.cells.set z ⟨ds,de,dt⟩ },(some ⟨g1,0,none⟩),c1,.slice Z x.ch.words c2,rfl,?_,?_,?_,?_,?_,?_,?_⟩,?_,?_⟩
   ·exact (QN (lo:=w+1) wN)
   ·exact fun e=>by cases e
   ·exact fun ad e=>by cases e;simp only;omega
   ·exact aL (lo:=w+1) zF tO
   ·simpa using ag
   ·exact ah
   ·exact qc ac.out
   ·exact zD
   ·exact lY
  ·obtain ⟨g1,rfl,cc,be,b0,b4,b5⟩:=aF.opens V (by rw [ab.out];omega)
   have bf:(1:Int)≤(x.ch.cells.length:Int):=by rw [ab.out];omega
   have cv:x.ch.cells.length≤c1:=b0;have cw:¬ c1=1:=by have:=ab.out;omega
   obtain ⟨kc,aa,ek⟩:∃ kc aa,x.ch.cells=kc :: aa:=by
    cases he:x.ch.cells with
    | nil=>have:=ab.out;rw [he] at this;simp at this
    | cons kc aa=>exact ⟨kc,aa,rfl⟩
   have EK:=aA ek;have au:=aA V;have av:=aA o2;clear b4 b5 ek;go_wp2;have el:x.ch.cells.length - 1=aa.length:=by rw [EK.out];simp
   rw [el];refine bodyPost_ret (v:=.agg #[.int .i64 { x.ch with cells:=aa }.cap,.int .i64 { x.ch with cells:=aa }.sent,.int .i64 { x.ch with cells:=aa }.got,.int .i64 { x.ch with cells:=aa }.fin,.slice (some ⟨g1,3,none⟩) { x.ch with cells:=aa }.cells.length (c1 - 1),.slice Z x.ch.words c2]) yg rfl ⟨⟨{ x.ch with cells:=aa },(some ⟨g1,3,none⟩),(c1 - 1),.slice Z x.ch.words c2,rfl,?_,?_,?_,?_,?_,?_,?_⟩,?_,?_⟩
   ·refine Ih.tail (c:=kc) (a:=⟨g1,0,none⟩) ?_ rfl rfl
    rw [← EK.out];exact (aF.segz (lo:=w+1) wN).1
   ·exact fun e=>by cases e
   ·exact fun ad e=>by cases e;simp only;omega
   ·exact aL (lo:=w+1) zF tO
   ·have:=ab.out;rw [EK.out] at this;simp at this;simp only;omega
   ·exact ah
   ·exact fun ad e=>by cases e;exact qc ac.out ⟨g1,0,none⟩ rfl
   ·exact zD
   ·exact lY
  ·have au:=aA V
   have av:=aA o2;clear V o2;obtain ⟨i0,c8,cb,bl,az⟩:=info_parts pR;have d6:some w.heap.size≠(Value.slice Z x.ch.words c2).ownBlock:=Ne.symm n2;have d7:some R.heap.size≠(Value.slice Z x.ch.words c2).ownBlock:=Ne.symm m2;have bt:=dF Y.out.1 Y.out.2.1 cB;have br:=fun k (hk:(Value.slice Z x.ch.words c2).ownBlock=some k)=>(Y.out.2.1.lt k hk).1
   go_wp2_with fail
   go_region_law (first|(go_simp;go_at_call 116;refine (nE B g (-1) 3 _ zD tO tO tO tO).mono ?_;rintro _ K ⟨⟨X,rfl,b6,bw⟩,ax,a6⟩;have b7:Gr g w K:=gT lY a6;have b3:Gr g w3 K:=gT lY a6;have c9:=ax.lt;have a0:=a6.size;(try (simp at a0));have zz:=And.intro (bM a6 (b:=R) tS dM) <| bM a6 (b:=w) tS dM;(first|simp [go_sem,G,J,O,I] at zz|simp [go_sem] at zz|skip);(try clear G M L I);(try clear J U T O);obtain ⟨G,J⟩:=zz;obtain ⟨M,L,I⟩:=bO G;obtain ⟨U,T,O⟩:=bO J;have q2:=av.out.kept b3 (.inr (own_ne Y.out.2.1 tO));have q1:=au.out.kept b3 (.inr (own_ne Y.out.1 tO)))|(refine step_append_lies _ ja _ _ _ ja (w+1) 2 i0 _ 1 8 underlying29 c8 cb bl az rfl tO (.slice Z x.ch.words c2) _ _ ja (World.ownsRow.drew (World.ownsRow.alloc q2 _)) ⟨K,0,none⟩ 1 1 [.int .i64 X] ja ja (World.news_of_block (cs:=#[.int .i64 X]) (t:=2) (fr:=(0,0)) (heap_alloc_new K _)) CF tO zM tO dQ (K+1) cK ?_;intro g8 q8 w8 o8 af aw cm;have bk:=af.size;(try (simp at bk));have zz:=And.intro (bM af (b:=R) tS dM) <| bM af (b:=w) tS dM;(first|simp [go_sem,G,J,O,I] at zz|simp [go_sem] at zz|skip);(try clear G M L I);(try clear J U T O);obtain ⟨G,J⟩:=zz;obtain ⟨M,L,I⟩:=bO G;obtain ⟨U,T,O⟩:=bO J;have c7:=DS.grown (DS.alloc ax) af (fun k hk=>by have:=br k hk;omega);have cu:=Gr.grown (gA b7) af (fun k hk=>by have:=br k hk;omega);have V:=(World.ownsRow.alloc q1 _).kept af bt;have o2:aI w8 (w+1) (.slice (some ⟨g8,0,none⟩) (x.ch.words.length+1) q8) (x.ch.words ++ [X]):=aI.snoc o8;have d1:=c7.lt;have e8:∀ j,j<K.heap.size+1→(Value.slice Z x.ch.words c2).ownBlock≠some j→(Value.slice (some ⟨g8,0,none⟩) (x.ch.words.length+1) q8).ownBlock≠some j:=(fun j hj hn e=>by simp [Value.ownBlock] at e;rcases aw with aw|aw;exact hn (by rw [aw,e]);omega);clear o8 af))
   all_goals go_wp2
   all_goals (have n8:=e8 w tO n2;have m8:=e8 R tO m2)
   all_goals refine bodyPost_ret (v:=.agg #[.int .i64 { x.ch with words:=x.ch.words ++ [X] }.cap,.int .i64 { x.ch with words:=x.ch.words ++ [X] }.sent,.int .i64 { x.ch with words:=x.ch.words ++ [X] }.got,.int .i64 { x.ch with words:=x.ch.words ++ [X] }.fin,.slice a1 { x.ch with words:=x.ch.words ++ [X] }.cells.length c1,.slice (some ⟨g8,0,none⟩) (x.ch.words.length+1) q8]) yg rfl ⟨⟨{ x.ch with words:=x.ch.words ++ [X] },a1,c1,.slice (some ⟨g8,0,none⟩) (x.ch.words.length+1) q8,rfl,?_,?_,?_,?_,?_,?_,?_⟩,?_,?_⟩
   all_goals first|exact fun ad e=>Nat.le_of_succ_le (aF.low Y.out.1 ad e)|skip
   all_goals first|exact ag|(simp only [List.length_append,List.length_singleton];omega)|skip
   all_goals first|exact fun ad e=>e8 ad.block (by have:=b1 ad.block (by rw [e];rfl);omega) (qc ac.out ad e)|skip
   all_goals first|(exact (aF.segz (lo:=w+1) wN).1)|skip
   all_goals first|(exact (aF.segz (lo:=w+1) wN).2)|skip
   all_goals first|(exact zD;done)|skip
   all_goals first|(exact lY;done)|skip
   all_goals (refine aL (lo:=w+1) ?_ tO;(repeat (first|with_reducible exact o2|with_reducible refine World.ownsRow.alloc ?_ _|with_reducible refine World.ownsRow.drew ?_|((with_reducible refine aV ?_ ?_ _);rotate_left;(focus (first|exact n8|exact m8))))))
theorem Cz (B g:Nat) (w:World) (F:DS w B g):Calls prog 166 #[.pointer (some ⟨g,0,none⟩)] w fun r w'=>VM w' w r∧DS w' B g∧Gr g w w' :=
 (Cy B g w F).mono fun _ _ ⟨⟨c,a,p,v2,e,h1,h2,h3,G,H,h6,_⟩,F,I⟩=>⟨⟨c,a,p,v2,e,h1,h2,h3,G,H,h6⟩,F,I⟩
end
section
open Go.RowKit
attribute [local simp] dz
def Hi (lo:Nat) (a:Option Addr):Prop:=∀ ad,a=some ad→lo≤ad.block
def wK (w':World) (lo:Nat) (r:Ending):Prop:=∃ (x:Wo) (a b d e:Option Addr) (p1 p2 p3 p4:Nat),r=.returned (.agg #[x.ch.cap,x.ch.sent,x.ch.got,x.ch.fin,.slice a x.ch.cells p1,.slice b x.ch.words p2,.slice d x.hands p3,.slice e x.deals p4,x.now])∧lX w' w' x a b d e∧pJ x a b d e p1 p2 p3 p4∧qi x∧x.hands.length≤6∧Hi lo a∧Hi lo b∧Hi lo d∧Hi lo e∧Fz w' x.ch.cells a
theorem Seg.grown {w w':World} {row:Option Nat} {B n k:Nat} {a:Option Addr} {f:Nat→Nat→Value} (h:Seg w w a n k f) (H:w.grownBy w' row) (hr:∀ F,a=some F→row≠some F.block):Seg w' w' a n k f:=by
 rcases h with h|⟨b,o,rfl,G,hc⟩
 ·exact .inl h
 ·exact .inr ⟨b,o,rfl,Nat.lt_of_lt_of_le G H.size,fun i j I J=>(World.cell?_of_block (H.block b G (fun e=>hr _ rfl e.symm))).trans (hc i j I J)⟩
theorem BC {w:World} {lo:Nat} {t:TypeId} {k n p:Nat} {a:Option Addr} {G:List Value} (h:w.ownsRow lo t k (.slice a n p) n G):Hi lo a:=fun F e=>(h.lt F.block (by subst e;rfl)).1
theorem TP {w:World} {lo:Nat} {t:TypeId} {k n p:Nat} {a:Option Addr} {G:List Value} (h:w.ownsRow lo t k (.slice a n p) n G):n≤p:=by
 rcases h.2 with ⟨_,H⟩|⟨g,cap,F,e,_,_,hc,_⟩
 ·omega
 ·simp at e;omega
theorem qm {w W I:World} {B g:Nat} {x:Wo} {a b d e:Option Addr} {M O p3 R:Nat} (X:DS W B g) (V:Gr g w W) (gr:W.grownBy I (some w.heap.size)) (Y:g<w.heap.size) (S:lX W W x a b d e) (N:pJ x a b d e M O p3 R) (L:qi x) (h6:x.hands.length≤6) (J:Hi (w+1) a) (T:Hi (w+1) b) (H:Hi (w+1) d) (U:Hi (w+1) e) (F:Fz W x.ch.cells a) :
  wK I w (.returned (.agg #[x.ch.cap,x.ch.sent,x.ch.got,x.ch.fin,.slice a x.ch.cells M,.slice b x.ch.words O,.slice d x.hands p3,.slice e x.deals R,x.now]))∧DS I B g∧Gr g w I:=by
 have ne:∀ {a:Option Addr},Hi (w+1) a→∀ G,a=some G→some w.heap.size≠some G.block:=fun h G e k=>by have:=h G e;simp at k;omega
 have lo:∀ {a:Option Addr},Hi (w+1) a→Hi w a:=fun h G e=>by have:=h G e;omega
 exact ⟨⟨x,a,b,d,e,M,O,p3,R,rfl,⟨Seg.grown (B:=0) S.1 gr (ne J),Seg.grown (B:=0) S.2.1 gr (ne T),Seg.grown (B:=0) S.2.2.1 gr (ne H),Seg.grown (B:=0) S.2.2.2 gr (ne U)⟩,N,L,h6,lo J,lo T,lo H,lo U,F.grown gr (ne J)⟩,
  X.grown gr (fun k K=>by simp at K;omega),V.grown gr (fun k K=>by simp at K;omega)⟩
theorem mZ {w:World} {lo:Nat} {x:Wo} {a b d e:Option Addr} {F G p3 H:Nat} (h:dG w lo (.slice a x.ch.cells F) (.slice b x.ch.words G) (.slice d x.hands p3) (.slice e x.deals H) x):lX w w x a b d e∧pJ x a b d e F G p3 H∧Hi lo a∧Hi lo b∧Hi lo d∧Hi lo e:=by
 obtain ⟨I,t1,J,t2,K,M,L,N⟩:=h.segs;exact ⟨⟨I,J,K,L⟩,⟨t1,t2,M,N⟩,BC h.1,BC h.2.1,BC h.2.2.1,BC h.2.2.2⟩
theorem Seg.tailH {w:World} {B g:Nat} {hs:List Ha} (h:qX w B (some ⟨g,0,none⟩) hs):qX w B (some ⟨g,14,none⟩) hs.tail:=by
 cases hs with
 | nil=>exact .inl rfl
 | cons I t =>
  rcases h with h|⟨b,o,e,F,hc⟩
  ·simp at h
  ·simp at e
   obtain ⟨rfl,rfl⟩:=e;refine .inr ⟨g,14,rfl,F,fun i j G H=>?_⟩;have:=hc (i+1) j (by simpa using G) H;simp [fO] at this ⊢;rw [← this];congr 2;omega
theorem Kw {w:World} {k:Nat} {G:Array Value} {T:TypeId} (h:hp w k=some (.cells G T)):∀ F,some (⟨k,0,none⟩:Addr)=some F→∀ j u,G.toList[j]?=some u→w.cell? (F.add j)=some u:=by
 intro F e j u I;simp at e;subst e;have H:(⟨k,0,none⟩:Addr).add j=⟨k,j,none⟩:=by
  simp [Addr.add];intro e;exact e.symm
 rw [H,(bO h).1 j];simpa using I
theorem NN (a b c d e f g:Int):∀ u ∈ (#[Value.int .i64 a,.int .i64 b,.int .i64 c,.int .i64 d,.int .i64 e,.int .i64 f,.int .i64 g]:Array Value).toList,u.oneCell'=true:=by
 intro u F;simp at F;rcases F with rfl|rfl|rfl|rfl|rfl|rfl|rfl <;> rfl
theorem NP (h:Ha) (t:List Ha) (z:Int):lS ((h :: t).set 0 { h with pos:=z })=(lS (h :: t)).set 0 (.int .i64 z):=by
 simp [lS,aB]
theorem dY.pos {w:World} {lo g cap:Nat} {hs:List Ha} (h:dY w lo (.slice (some ⟨g,0,none⟩) hs.length cap) hs) (F:0<hs.length) (z:Int):dY (w.setCell ⟨g,0,none⟩ (.int .i64 z)) lo (.slice (some ⟨g,0,none⟩) (hs.set 0 { hs.getD 0 Ha.zero with pos:=z }).length cap) (hs.set 0 { hs.getD 0 Ha.zero with pos:=z }):=by
 cases hs with
 | nil=>simp at F
 | cons k t =>
  have:=kJ h 0 (by rw [nH];simp) (.int .i64 z);unfold dY;simp only [List.length_set];rw [show (k :: t).set 0 { (k :: t).getD 0 Ha.zero with pos:=z }=(k :: t).set 0 { k with pos:=z } from rfl,NP];exact this
theorem BD (B g:Nat) (w:World) (hd:DS w B g):Calls prog 114 #[.pointer (some ⟨g,0,none⟩)] w fun r w'=>wK w' w r∧DS w' B g∧Gr g w w':=by
 have hl:=hd.lt;have ct:=hd.le;have a6:g<w.heap.size:=hl;have a7:some w.heap.size≠some g:=by simp;omega
 go_enter func114,ntmps114
 go_wp2_with fail;refine (yV B g  _ zD ).mono ?_;rintro _ H ⟨⟨x,v1,v2,v3,v4,rfl,a4,hx,cw,_⟩,ax,ag⟩;have bb:Gr g w H:=gT lY ag;have cj:=ax.lt;have ar:=ag.size;(try (simp at ar))
 have ar:=ag.size;(try (simp at ar));have zz:=bM ag (b:=w) tS dM;(try simp [go_sem] at zz);(try clear L Y X V);have L:=zz;clear zz;obtain ⟨Y,X,V⟩:=bO L;replace a4:dG H (w+1) v1 v2 v3 v4 x:=by simpa using a4
 obtain ⟨a,b,d,e,p1,p2,p3,p4,rfl,rfl,rfl,rfl,_⟩:=a4.opens;have J:qi x:=⟨by have:=(nK hx.ch).1;omega,by omega,by have:=hx.h6;omega,by have:=hx.d;omega⟩;have cr:=hx.h1;have h6:=hx.h6;have cm:=hx.d;have af:some H.heap.size≠some g:=by simp;omega
 have c6:w<H.heap.size:=tO;clear L X Y;have b0:hp H w=some (.cells #[.int .i64 0,.int .i64 0,.int .i64 0,.int .i64 0,.slice none 0 0,.slice none 0 0,.slice none 0 0,.slice none 0 0,.int .i64 0] 35):=(bM ag cK a7).trans qz;go_wp2_with fail;generalize aj:World.alloc H _=wb;have L:hp wb w=some (.cells #[.int .i64 0,.int .i64 0,.int .i64 0,.int .i64 0,.slice none 0 0,.slice none 0 0,.slice none 0 0,.slice none 0 0,.int .i64 0] 35):=by rw [← aj];simp [go_sem,b0,c6]
 have I:hp wb H=some (.cells #[x.ch.cap,x.ch.sent,x.ch.got,x.ch.fin,.slice a x.ch.cells p1,.slice b x.ch.words p2,.slice d x.hands p3,.slice e x.deals p4,x.now] 35):=by rw [← aj];exact heap_alloc_new _ _
 have M:dG wb (w+1) (.slice a x.ch.cells p1) (.slice b x.ch.words p2) (.slice d x.hands p3) (.slice e x.deals p4) x:=by rw [← aj];exact ⟨World.ownsRow.alloc a4.1 _,World.ownsRow.alloc a4.2.1 _,World.ownsRow.alloc a4.2.2.1 _,World.ownsRow.alloc a4.2.2.2 _⟩
 have bg:DS wb B g:=by rw [← aj];exact DS.alloc ax
 have bc:Gr g w wb:=by rw [← aj];exact gA bb
 clear aj b0 a4 V;obtain ⟨Y,X,V⟩:=bO L;obtain ⟨a3,a5,a2⟩:=bO I;refine (jM B g 8 _ bg tO tO).mono ?_;rintro _ w2 ⟨⟨y2,rfl⟩,ay,ah⟩;have aw:Gr g w w2:=gT bc ah;replace L:=(bM ah (bO L).2.2 a7).trans L;replace I:=(bM ah (bO I).2.2 af).trans I;replace M:=M.gr ah tO;clear Y X V a3 a5 a2;obtain ⟨Y,X,V⟩:=bO L;obtain ⟨a3,a5,a2⟩:=bO I;cases y2 with
 | false =>
  obtain ⟨S,N,i1,i2,i3,i4⟩:=mZ M;go_wp2;refine bodyPost_ret (v:=.agg #[x.ch.cap,x.ch.sent,x.ch.got,x.ch.fin,.slice a x.ch.cells p1,.slice b x.ch.words p2,.slice d x.hands p3,.slice e x.deals p4,x.now]) zH rfl ?_;generalize a1:World.setCell _ _ _=W';refine qm (x:=x) (W:=w2) ay aw zL a6 S N J h6 i1 i2 i3 i4 (Fz.own M.1)
 | true =>
  go_wp2_with fail;refine (fJ B g 5 _ ay tO tO).mono ?_
  rintro _ w3 ⟨⟨n,rfl,bx,c1⟩,ab,ai⟩;have a9:Gr g w w3:=gT aw ai;replace L:=(bM ai (bO L).2.2 a7).trans L;replace I:=(bM ai (bO I).2.2 af).trans I;replace M:=M.gr ai tO;clear Y X V a3 a5 a2;obtain ⟨Y,X,V⟩:=bO L;obtain ⟨a3,a5,a2⟩:=bO I;have hn:n=0∨n=1∨n=2∨n=3∨n=4:=tO;clear bx c1;rcases hn with rfl|rfl|rfl|rfl|rfl
  ·go_wp2_with fail
   refine (nG B g 20000 _ ab tO tO).mono ?_;rintro _ w4 ⟨⟨z,rfl⟩,ao,a0⟩;have am:Gr g w w4:=gT a9 a0;replace L:=(bM a0 (bO L).2.2 a7).trans L;replace I:=(bM a0 (bO I).2.2 af).trans I;replace M:=M.gr a0 tO;clear Y X V a3 a5 a2;obtain ⟨Y,X,V⟩:=bO L;obtain ⟨a3,a5,a2⟩:=bO I;have gb:w4.grownBy (w4.setCell ⟨H,8,none⟩ (.int .i64 z)) (some H.heap.size):=gS (gR _ _) (.inl rfl);have b7:dG (w4.setCell ⟨H,8,none⟩ (.int .i64 z)) (w+1) (.slice a x.ch.cells p1) (.slice b x.ch.words p2) (.slice d x.hands p3) (.slice e x.deals p4) x:=⟨M.1.kept gb (.inr fun R=>fe M.1 I cB _ R rfl),M.2.1.kept gb (.inr fun R=>fe M.2.1 I cB _ R rfl),M.2.2.1.kept gb (.inr fun R=>fe M.2.2.1 I cB _ R rfl),M.2.2.2.kept gb (.inr fun R=>fe M.2.2.2 I cB _ R rfl)⟩
   have bv:DS (w4.setCell ⟨H,8,none⟩ (.int .i64 z)) B g:=ao.grown gb (fun k hk=>by simp at hk;omega);have bt:Gr g w (w4.setCell ⟨H,8,none⟩ (.int .i64 z)):=am.grown gb (fun k hk=>by simp at hk;omega);obtain ⟨S,N,i1,i2,i3,i4⟩:=mZ b7;go_wp2;refine bodyPost_ret (v:=.agg #[x.ch.cap,x.ch.sent,x.ch.got,x.ch.fin,.slice a x.ch.cells p1,.slice b x.ch.words p2,.slice d x.hands p3,.slice e x.deals p4,.int .i64 z]) zH rfl ?_
   generalize a1:World.setCell _ _ _=W';refine qm (x:={ x with now:=z }) (W:=w4.setCell ⟨H,8,none⟩ (.int .i64 z)) bv bt zL a6 S N J h6 i1 i2 i3 i4 (Fz.own b7.1)
  ·obtain ⟨S,N,i1,i2,i3,i4⟩:=mZ M
   obtain ⟨T,b8,ev,b4,cc,ap,aq⟩:=dY.open1 M.2.2.1 (i:=0) tO;simp at ev;obtain ⟨rfl,rfl⟩:=ev;have az:(1:Int)≤(x.hands.length:Int):=tO;have bu:x.hands.length≤p3:=TP M.2.2.1;clear ap aq;have b1:x.hands.tail.length=x.hands.length - 1:=by simp
   have gb:∀ u,w3.grownBy (w3.setCell ⟨H,6,none⟩ u) (some H.heap.size):=fun u=>gS (gR _ _) (.inl rfl)
   have nb:∀ {a:Option Addr} {t:TypeId} {k n p:Nat} {xs:List Value},w3.ownsRow (w+1) t k (.slice a n p) n xs→t≠35→∀ ad,a=some ad→some H.heap.size≠some ad.block:=fun h ht ad ea k=>fe h I ht ad.block (by subst ea;rfl) (by simpa using k.symm)
   by_cases bf:p3=1
   ·have e1:x.hands.length=1:=by omega
    subst bf;have e0:x.hands.tail.length=0:=by rw [b1,e1]
    have ck:=S;rw [e1] at I a3 az;clear b1;have S6:lX (w3.setCell ⟨H,6,none⟩ (.slice (some ⟨T,0,none⟩) 0 0)) (w3.setCell ⟨H,6,none⟩ (.slice (some ⟨T,0,none⟩) 0 0)).heap.size { x with hands:=x.hands.tail } a b (some ⟨T,0,none⟩) e:=⟨Seg.grown (B:=0) S.1 (gb _) (nb M.1 cB),Seg.grown (B:=0) S.2.1 (gb _) (nb M.2.1 cB),.inl e0,Seg.grown (B:=0) S.2.2.2 (gb _) (nb M.2.2.2 cB)⟩
    have L6:qi { x with hands:=x.hands.tail }:=⟨J.1,J.2.1,by have:=J.2.2.1;show x.hands.tail.length≤_;omega,J.2.2.2⟩
    have N6:pJ { x with hands:=x.hands.tail } a b (some ⟨T,0,none⟩) e p1 p2 0 p4:=⟨N.1,N.2.1,nofun,N.2.2.2⟩
    have F6:=fun v9=>(Fz.own M.1).grown (gb v9) (nb M.1 cB)
    have b6:Hi (w+1) (some ⟨T,0,none⟩):=fun ad R=>by cases R;exact b4
    have an:DS (w3.setCell ⟨H,6,none⟩ (.slice (some ⟨T,0,none⟩) 0 0)) B g:=ab.grown (gb _) (fun k hk=>by simp at hk;omega);have al:Gr g w (w3.setCell ⟨H,6,none⟩ (.slice (some ⟨T,0,none⟩) 0 0)):=a9.grown (gb _) (fun k hk=>by simp at hk;omega);go_wp2;refine bodyPost_ret (v:=.agg #[x.ch.cap,x.ch.sent,x.ch.got,x.ch.fin,.slice a x.ch.cells p1,.slice b x.ch.words p2,.slice (some ⟨T,0,none⟩) x.hands.tail.length 0,.slice e x.deals p4,x.now]) zH rfl ?_
    generalize a1:World.setCell _ _ _=W';refine qm (x:={ x with hands:=x.hands.tail }) (W:=w3.setCell ⟨H,6,none⟩ (.slice (some ⟨T,0,none⟩) 0 0)) an al zL a6 S6 N6 L6 (by show x.hands.tail.length≤6;simp;omega) i1 i2 b6 i4 (F6 _)
   ·have bk:=aA b1
    have S6:lX (w3.setCell ⟨H,6,none⟩ (.slice (some ⟨T,14,none⟩) x.hands.tail.length (p3 - 1))) (w3.setCell ⟨H,6,none⟩ (.slice (some ⟨T,14,none⟩) x.hands.tail.length (p3 - 1))).heap.size { x with hands:=x.hands.tail } a b (some ⟨T,14,none⟩) e:=⟨Seg.grown (B:=0) S.1 (gb _) (nb M.1 cB),Seg.grown (B:=0) S.2.1 (gb _) (nb M.2.1 cB),Seg.grown (B:=0) (Seg.tailH S.2.2.1) (gb _) (fun ad R=>by cases R;exact nb M.2.2.1 cB ⟨T,0,none⟩ rfl),Seg.grown (B:=0) S.2.2.2 (gb _) (nb M.2.2.2 cB)⟩
    have L6:qi { x with hands:=x.hands.tail }:=⟨J.1,J.2.1,by have:=J.2.2.1;show x.hands.tail.length≤_;omega,J.2.2.2⟩
    have N6:pJ { x with hands:=x.hands.tail } a b (some ⟨T,14,none⟩) e p1 p2 (p3 - 1) p4:=⟨N.1,N.2.1,nofun,N.2.2.2⟩
    have F6:=fun v9=>(Fz.own M.1).grown (gb v9) (nb M.1 cB)
    have b6:Hi (w+1) (some ⟨T,14,none⟩):=fun ad R=>by cases R;exact b4
    have an:DS (w3.setCell ⟨H,6,none⟩ (.slice (some ⟨T,14,none⟩) x.hands.tail.length (p3 - 1))) B g:=ab.grown (gb _) (fun k hk=>by simp at hk;omega);have al:Gr g w (w3.setCell ⟨H,6,none⟩ (.slice (some ⟨T,14,none⟩) x.hands.tail.length (p3 - 1))):=a9.grown (gb _) (fun k hk=>by simp at hk;omega);have bm:=aA S6;have bl:=aA L6;clear S6 L6;go_wp2;rw [show x.hands.length - 1=x.hands.tail.length from bk.out.symm]
    have S6:=bm.out;have L6:=bl.out;refine bodyPost_ret (v:=.agg #[x.ch.cap,x.ch.sent,x.ch.got,x.ch.fin,.slice a x.ch.cells p1,.slice b x.ch.words p2,.slice (some ⟨T,14,none⟩) x.hands.tail.length (p3 - 1),.slice e x.deals p4,x.now]) zH rfl ?_;generalize a1:World.setCell _ _ _=W';refine qm (x:={ x with hands:=x.hands.tail }) (W:=w3.setCell ⟨H,6,none⟩ (.slice (some ⟨T,14,none⟩) x.hands.tail.length (p3 - 1))) an al zL a6 S6 N6 L6 (by show x.hands.tail.length≤6;simp;omega) i1 i2 b6 i4 (F6 _)
  ·obtain ⟨i6,bw,c7,bj,be⟩:=info_parts xO
   go_wp2_with fail;refine lh [[],[0],[],[2],[],[4],[],[6],[],[8],[6,7,8,9],[],[11],[2,3,4,5,6,7,8,9,10,11,12],[2,3,4,5,6,7,8,9,10,11,12,13],qB [8,9,10,11,12,13,14],[],qC [16]] [25,26,27,28,29,30,31,32,33,34,35,36,37,38,39,40,41] (fun l s O=>(DS O B g)∧(Gr g w O)∧(w3≤O.heap.size)∧(hp O w=some (.cells #[.int .i64 0,.int .i64 0,.int .i64 0,.int .i64 0,.slice none 0 0,.slice none 0 0,.slice none 0 0,.slice none 0 0,.int .i64 0] 35))∧(hp O H=some (.cells #[x.ch.cap,x.ch.sent,x.ch.got,x.ch.fin,.slice a x.ch.cells p1,.slice b x.ch.words p2,.slice d x.hands p3,cond (l 17) (s 1040) (.slice e x.deals p4),x.now] 35))∧(aF O (w+1) (.slice a x.ch.cells p1) x.ch.cells)∧(aI O (w+1) (.slice b x.ch.words p2) x.ch.words)∧(dY O (w+1) (.slice d x.hands p3) x.hands)∧(l 15=false→gU O (w+1) (.slice e x.deals p4) x.deals)∧(l 0=true→s 25=.pointer (some ⟨H,7,none⟩))∧(l 1=true→s 26=.slice e x.deals p4)∧(l 2=true→s 27=.pointer (some ⟨g,0,none⟩))∧(l 3=true→∃ z:Int,s 28=.int .i64 z)∧(l 4=true→s 29=.pointer (some ⟨g,0,none⟩))∧(l 5=true→∃ k e0:Int,s 30=.agg #[.int .i64 k,.int .i64 e0])∧(l 6=true→s 31=.pointer (some ⟨H,8,none⟩))∧(l 7=true→s 32=.int .i64 x.now)∧(l 8=true→s 33=.pointer (some ⟨g,0,none⟩))∧(l 9=true→∃ z:Int,s 34=.int .i64 z)∧(l 10=true→∃ z:Int,s 35=.int .i64 z)∧(l 11=true→s 36=.pointer (some ⟨g,0,none⟩))∧(l 12=true→∃ z:Int,s 37=.int .i64 z)∧(l 13=true→∃ t k e0 f p:Int,s 38=.agg #[.int .i64 (t),.int .i64 (k),.int .i64 (e0),.int .i64 0,.int .i64 (f),.int .i64 (p),.int .i64 0])∧(l 14=true→l 15=false→∃ (q:Nat) (t k e0 f p:Int),s 39=.slice (some ⟨q,0,none⟩) 1 1∧hp O q=some (.cells #[.int .i64 (t),.int .i64 (k),.int .i64 (e0),.int .i64 0,.int .i64 (f),.int .i64 (p),.int .i64 0] 44))∧(l 15=true→∃ de:De,s 40=s 1040∧gU O (w+1) (s 1040) (x.deals ++ [de]))∧(l 16=true→s 41=.pointer (some ⟨H,7,none⟩))) (fun s=>⟨ab.drew,gD a9,Nat.le_refl _,L,I,M.1.drew,M.2.1.drew,M.2.2.1.drew,fun _=>M.2.2.2.drew,nB,nB,nB,nB,nB,nB,nB,nB,nB,nB,nB,nB,nB,nB,nB,nB,nB⟩) ?_ ?_
   refine ⟨?_,?_,?_,?_,?_,?_,?_,?_,?_,?_,?_,?_,?_,?_,?_,?_,?_,?_,trivial⟩;iterate 18 (intro l s O hl hd hn F K hK;rotate_left)
   ·intro l s wf aa F
    have b3:=F.1;have b2:=F.2.1;have au:=F.2.2.2.1;have ac:=F.2.2.2.2.1;have m1:=(jC F).2.1;have m2:=(jC F).2.2.1;have m3:=(jC F).2.2.2.1;obtain ⟨de,_,m4⟩:=((jD (jE F)).1 (aa 15 rfl));rw [aa 17 rfl] at ac;dsimp only [cond] at ac;obtain ⟨na,nc,en,_⟩:=gU.seg m4;rw [en] at m4 ac;clear F aa Y X V a3 a5 a2 L I en;obtain ⟨Y,X,V⟩:=bO au;obtain ⟨a3,a5,a2⟩:=bO ac;obtain ⟨S,N,i1,i2,i3,i4⟩:=mZ (x:={ x with deals:=x.deals ++ [de] }) ⟨m1,m2,m3,m4⟩
    have L6:qi { x with deals:=x.deals ++ [de] }:=⟨J.1,J.2.1,J.2.2.1,by simp;omega⟩
    go_wp2;refine bodyPost_ret (v:=.agg #[x.ch.cap,x.ch.sent,x.ch.got,x.ch.fin,.slice a x.ch.cells p1,.slice b x.ch.words p2,.slice d x.hands p3,.slice na (x.deals ++ [de]).length nc,x.now]) zH rfl ?_;generalize a1:World.setCell _ _ _=W';refine qm (x:={ x with deals:=x.deals ++ [de] }) (W:=wf) b3 b2 zL a6 S N L6 h6 i1 i2 i3 i4 (Fz.own m1)
   ·go_simp
    refine hK.out (upd s 25 (.pointer (some ⟨H,7,none⟩))) _ _ gM (kD (kA (kX (fun _=>rfl) id)) F.out)
   ·have e0:=((jD F.out).2.1 (hd 0 rfl))
    have zz:=F.out.2.2.2.2.1;rw [show l 17=false from hn 17 rfl] at zz;have q:O.cell? ⟨H,7,none⟩=some (.slice e x.deals p4):=(bO zz).1 7;go_simp;refine hK.out (upd s 26 (.slice e x.deals p4)) _ _ yj (kD (kB (kX (fun _=>rfl) id)) F.out)
   ·go_simp
    refine hK.out (upd s 27 (.pointer (some ⟨g,0,none⟩))) _ _ gM (kD (kB (kA (kX (fun _=>rfl) id))) F.out)
   ·have e2:=((jD F.out).2.2.2.1 (hd 2 rfl))
    go_simp
    go_at_call 116
    refine (nE B g (-1) 3 _ F.out.1 tO tO tO tO).mono ?_;rintro _ wy ⟨⟨z,rfl,_,_⟩,ae,G⟩;refine hK.out (upd s 28 (.int .i64 z)) _ _ wR (kX (ae) (kX (gT F.out.2.1 G) (kX (Nat.le_trans F.out.2.2.1 (World.grownBy.size G)) (kX ((bM G (bO F.out.2.2.2.1).2.2 a7).trans F.out.2.2.2.1) (kX ((bM G (bO F.out.2.2.2.2.1).2.2 af).trans F.out.2.2.2.2.1) (kX (World.ownsRow.kept (jC F.out).2.1 G (.inr (own_ne (jC F.out).2.1 tO))) (kX (World.ownsRow.kept (jC F.out).2.2.1 G (.inr (own_ne (jC F.out).2.2.1 tO))) (kX (World.ownsRow.kept (jC F.out).2.2.2.1 G (.inr (own_ne (jC F.out).2.2.2.1 tO))) (kX (fun Z=>World.ownsRow.kept ((jD F.out).1 Z) G (.inr (own_ne ((jD F.out).1 Z) tO))) (kB (kA (kX (fun _=>⟨_,rfl⟩) (kD (kA (kX (nU (hn 13 rfl)) (kX (nU (hn 14 rfl)) (kX (nU (hn 15 rfl)) id)))))))))))))))) F.out)
   ·go_simp
    refine hK.out (upd s 29 (.pointer (some ⟨g,0,none⟩))) _ _ gM (kD (kC (kA (kX (fun _=>rfl) id))) F.out)
   ·have e4:=((jC (jD F.out)).2.1 (hd 4 rfl))
    go_simp
    go_at_call 165
    refine (Ak B g _ F.out.1).mono ?_;rintro _ wy ⟨⟨k,e0,rfl,_⟩,ae,G⟩;refine hK.out (upd s 30 (.agg #[.int .i64 k,.int .i64 e0])) _ _ zJ (kX (ae) (kX (gT F.out.2.1 G) (kX (Nat.le_trans F.out.2.2.1 (World.grownBy.size G)) (kX ((bM G (bO F.out.2.2.2.1).2.2 a7).trans F.out.2.2.2.1) (kX ((bM G (bO F.out.2.2.2.2.1).2.2 af).trans F.out.2.2.2.2.1) (kX (World.ownsRow.kept (jC F.out).2.1 G (.inr (own_ne (jC F.out).2.1 tO))) (kX (World.ownsRow.kept (jC F.out).2.2.1 G (.inr (own_ne (jC F.out).2.2.1 tO))) (kX (World.ownsRow.kept (jC F.out).2.2.2.1 G (.inr (own_ne (jC F.out).2.2.2.1 tO))) (kX (fun Z=>World.ownsRow.kept ((jD F.out).1 Z) G (.inr (own_ne ((jD F.out).1 Z) tO))) (kC (kA (kX (fun _=>⟨_,_,rfl⟩) (kC (kB (kA (kX (nU (hn 13 rfl)) (kX (nU (hn 14 rfl)) (kX (nU (hn 15 rfl)) id))))))))))))))))) F.out)
   ·go_simp
    refine hK.out (upd s 31 (.pointer (some ⟨H,8,none⟩))) _ _ gM (kD (kC (kB (kA (kX (fun _=>rfl) id)))) F.out)
   ·have e6:=((jC (jD F.out)).2.2.2.1 (hd 6 rfl))
    have q:O.cell? ⟨H,8,none⟩=some (.int .i64 x.now):=(bO F.out.2.2.2.2.1).1 8;go_simp;refine hK.out (upd s 32 (.int .i64 x.now)) _ _ (by simp [aX,e6] <;> rfl) (kE (kX (fun _=>rfl) id) F.out)
   ·go_simp
    refine hK.out (upd s 33 (.pointer (some ⟨g,0,none⟩))) _ _ gM (kE (kA (kX (fun _=>rfl) id)) F.out)
   ·have e8:=((jE F.out).2.1 (hd 8 rfl))
    go_simp
    go_at_call 116
    refine (nE B g (-1) 1 _ F.out.1 tO tO tO tO).mono ?_;rintro _ wy ⟨⟨z,rfl,_,_⟩,ae,G⟩;refine hK.out (upd s 34 (.int .i64 z)) _ _ wP (kX (ae) (kX (gT F.out.2.1 G) (kX (Nat.le_trans F.out.2.2.1 (World.grownBy.size G)) (kX ((bM G (bO F.out.2.2.2.1).2.2 a7).trans F.out.2.2.2.1) (kX ((bM G (bO F.out.2.2.2.2.1).2.2 af).trans F.out.2.2.2.2.1) (kX (World.ownsRow.kept (jC F.out).2.1 G (.inr (own_ne (jC F.out).2.1 tO))) (kX (World.ownsRow.kept (jC F.out).2.2.1 G (.inr (own_ne (jC F.out).2.2.1 tO))) (kX (World.ownsRow.kept (jC F.out).2.2.2.1 G (.inr (own_ne (jC F.out).2.2.2.1 tO))) (kX (fun Z=>World.ownsRow.kept ((jD F.out).1 Z) G (.inr (own_ne ((jD F.out).1 Z) tO))) (kD (kA (kX (fun _=>⟨_,rfl⟩) (kX (nU (hn 10 rfl)) (kB (kX (nU (hn 13 rfl)) (kX (nU (hn 14 rfl)) (kX (nU (hn 15 rfl)) id)))))))))))))))) F.out)
   ·have e7:=((jE F.out).1 (hd 7 rfl))
    obtain ⟨z,R⟩:=((jE F.out).2.2.1 (hd 9 rfl));go_simp;refine hK.out (upd s 35 (.int .i64 (IntKind.i64.wrap (x.now+z)))) _ _ (by simp [aX,e7,R] <;> rfl) (kE (kB (kA (kX (fun _=>⟨_,rfl⟩) id))) F.out)
   ·go_simp
    refine hK.out (upd s 36 (.pointer (some ⟨g,0,none⟩))) _ _ gM (kE (kC (kX (fun _=>rfl) id)) F.out)
   ·have bo:=((jC (jE F.out)).1 (hd 11 rfl))
    go_simp
    go_at_call 116
    refine (nE B g 0 5 _ F.out.1 tO tO tO tO).mono ?_;rintro _ wy ⟨⟨z,rfl,_,_⟩,ae,G⟩;refine hK.out (upd s 37 (.int .i64 z)) _ _ (by simp [aX,bo] <;> rfl) (kX (ae) (kX (gT F.out.2.1 G) (kX (Nat.le_trans F.out.2.2.1 (World.grownBy.size G)) (kX ((bM G (bO F.out.2.2.2.1).2.2 a7).trans F.out.2.2.2.1) (kX ((bM G (bO F.out.2.2.2.2.1).2.2 af).trans F.out.2.2.2.2.1) (kX (World.ownsRow.kept (jC F.out).2.1 G (.inr (own_ne (jC F.out).2.1 tO))) (kX (World.ownsRow.kept (jC F.out).2.2.1 G (.inr (own_ne (jC F.out).2.2.1 tO))) (kX (World.ownsRow.kept (jC F.out).2.2.2.1 G (.inr (own_ne (jC F.out).2.2.2.1 tO))) (kX (fun Z=>World.ownsRow.kept ((jD F.out).1 Z) G (.inr (own_ne ((jD F.out).1 Z) tO))) (kD (kC (kX (fun _=>⟨_,rfl⟩) (kX (nU (hn 13 rfl)) (kX (nU (hn 14 rfl)) (kX (nU (hn 15 rfl)) id)))))))))))))) F.out)
   ·obtain ⟨t,e3⟩:=((jC (jD F.out)).1 (hd 3 rfl))
    obtain ⟨k,e0,e5⟩:=((jC (jD F.out)).2.2.1 (hd 5 rfl));obtain ⟨f,bn⟩:=((jE F.out).2.2.2.1 (hd 10 rfl));obtain ⟨p,bp⟩:=((jC (jE F.out)).2.1 (hd 12 rfl));go_simp;refine hK.out (upd s 38 (.agg #[.int .i64 (t),.int .i64 (k),.int .i64 (e0),.int .i64 0,.int .i64 (f),.int .i64 (p),.int .i64 0])) _ _ (by simp [aX,e3,e5,bn,bp] <;> rfl) (kE (kC (kB (kX (fun _=>⟨_,_,_,_,_,rfl⟩) id))) F.out)
   ·obtain ⟨t,k,e0,f,p,bq⟩:=((jC (jE F.out)).2.2.1 (hd 13 rfl))
    go_simp;refine hK.out (upd s 39 (.slice (some ⟨O,0,none⟩) 1 1)) _ _ (by simp [aX,bq] <;> rfl) (kX (DS.alloc F.out.1) (kX (gA F.out.2.1) (kX (Nat.le_trans F.out.2.2.1 (Below.size (bL O _))) (kX (iC F.out.2.2.2.1 (bL O _)) (kX (iC F.out.2.2.2.2.1 (bL O _)) (kX (own_below (jC F.out).2.1 (bL O _)) (kX (own_below (jC F.out).2.2.1 (bL O _)) (kX (own_below (jC F.out).2.2.2.1 (bL O _)) (kX (fun Z=>own_below ((jD F.out).1 Z) (bL O _)) (kD (kC (kB (kX (fun _ _=>⟨_,_,_,_,_,_,rfl,heap_alloc_new _ _⟩) (kX (nU (hn 15 rfl)) id))))))))))))) F.out)
   ·have e1:=((jD F.out).2.2.1 (hd 1 rfl))
    have cu:=F.out.2.2.1;have UI:gU O (w+1) (s 26) x.deals:=by rw [e1];exact (jD F.out).1 hl
    obtain ⟨kb,t,k,e0,f,p,ek,zk⟩:=((jC (jE F.out)).2.2.2.1 (hd 14 rfl)) hl;have cd:∀ k,(s 26).ownBlock=some k→g<k:=fun k hk=>by have:=(UI.lt k hk).1;omega
    have WH:∀ k,(s 26).ownBlock=some k→w.heap.size≤k:=fun k hk=>by have:=(UI.lt k hk).1;omega
    refine Dn rfl _ _ 33 rfl (w.heap.size+1) 44 i6 _ 7 56 underlying33 bw c7 bj be rfl cB (s 26) x.deals (oh x.deals) rfl UI (some ⟨kb,0,none⟩) 1 1 #[.int .i64 (t),.int .i64 (k),.int .i64 (e0),.int .i64 0,.int .i64 (f),.int .i64 (p),.int .i64 0].toList ek (fun h=>nomatch h) rfl (Kw zk) (NN _ _ _ _ _ _ _) zM tO tO ?_;intro v' w' o' g';refine hK.out (upd (upd s 1040 (v')) 40 (v')) _ _ (by simp [aX,Act.put] <;> rfl) (kX (F.out.1.grown g' cd) (kX (F.out.2.1.grown g' WH) (kX (Nat.le_trans F.out.2.2.1 (World.grownBy.size g')) (kX ((bM g' (bO F.out.2.2.2.1).2.2 (fun R=>fe UI F.out.2.2.2.1 cB _ R.symm rfl)).trans F.out.2.2.2.1) (kX (by (have zz:=F.out.2.2.2.2.1);(rw [show l 17=false from hn 17 rfl] at zz);rw [show upd l 15 true 17=false from hn 17 rfl];exact (bM g' (bO zz).2.2 (fun R=>fe UI zz cB _ R.symm rfl)).trans zz) (kX (World.ownsRow.kept (jC F.out).2.1 g' (dF (jC F.out).2.1 UI cB)) (kX (World.ownsRow.kept (jC F.out).2.2.1 g' (dF (jC F.out).2.2.1 UI cB)) (kX (World.ownsRow.kept (jC F.out).2.2.2.1 g' (dF (jC F.out).2.2.2.1 UI cB)) (kX (fun Z=>nU Z (show upd l 15 true 15=true from rfl)) (kD (kC (kB (kX (fun _ Z=>nU Z (show upd l 15 true 15=true from rfl)) (kX (fun _=>⟨⟨t,k,e0,0,f,p,0⟩,rfl,gU.snoc o'⟩) id))))))))))))) F.out)
   ·go_simp
    refine hK.out (upd s 41 (.pointer (some ⟨H,7,none⟩))) _ _ gM (kE (kD (kA (fun _=>fun _=>rfl))) F.out)
   ·have br:=((jD (jE F.out)).2 (hd 16 rfl))
    obtain ⟨de,b9,OD⟩:=((jD (jE F.out)).1 (hd 15 rfl));have a8:=F.out.2.2.2.2.1;rw [hl] at a8;dsimp only [cond] at a8;obtain ⟨na,nc,en,_⟩:=OD.seg;rw [List.length_append,List.length_singleton] at en;rw [en] at b9;have fB:=(bO a8).2.1;have cx:=(bO a8).2.2;have qB:O.cell? ⟨H,7,none⟩=some (.slice e x.deals p4):=(bO a8).1 7;have U:O.grownBy (O.setCell ⟨H,7,none⟩ (.slice na (x.deals.length+1) nc)) (some H.heap.size):=gS (gR _ O) (.inl rfl)
    have zn:hp (O.setCell ⟨H,7,none⟩ (.slice na (x.deals.length+1) nc)) H=some (.cells #[x.ch.cap,x.ch.sent,x.ch.got,x.ch.fin,.slice a x.ch.cells p1,.slice b x.ch.words p2,.slice d x.hands p3,s 1040,x.now] 35):=by rw [en,qF,a8];rfl
    go_simp;refine hK.out (s) _ _ (by simp [aX,br,b9] <;> rfl) (kX (F.out.1.grown U (fun k hk=>by simp at hk;omega)) (kX (F.out.2.1.grown U (fun k hk=>by simp at hk;omega)) (kX (Nat.le_trans F.out.2.2.1 (World.grownBy.size U)) (kX ((bM U (bO F.out.2.2.2.1).2.2 dQ).trans F.out.2.2.2.1) (kX (zn) (kX (World.ownsRow.kept (jC F.out).2.1 U (.inr fun R=>fe (jC F.out).2.1 a8 cB _ R rfl)) (kX (World.ownsRow.kept (jC F.out).2.2.1 U (.inr fun R=>fe (jC F.out).2.2.1 a8 cB _ R rfl)) (kX (World.ownsRow.kept (jC F.out).2.2.2.1 U (.inr fun R=>fe (jC F.out).2.2.2.1 a8 cB _ R rfl)) (kX (fun Z=>nU Z (hd 15 rfl)) (kD (kC (kB (kX (fun _ Z=>nU Z (hd 15 rfl)) (kX (fun Z=>(let ⟨de,u1,u2⟩:=(jD (jE F.out)).1 Z;⟨de,u1,World.ownsRow.kept u2 U (.inr fun R=>fe u2 a8 cB _ R rfl)⟩)) id))))))))))))) F.out)
  ·obtain ⟨T,b8,ev,b4,cc,ap,aq⟩:=dY.open1 M.2.2.1 (i:=0) tO
   simp at ev;obtain ⟨rfl,rfl⟩:=ev;have ce:¬ H.heap.size=T:=fun e=>fe M.2.2.1 I cB T rfl e.symm
   have az:(0:Int)<(x.hands.length:Int):=tO;have cf:0<x.hands.length:=tO;have cn:¬ T=g:=tO;clear ap aq;go_wp2_with fail;refine lh [[],[0],[],[2],[0,1],[0,1,4],[0,1,2,3,4,5]] [44,45,46,47,48,49] (fun l s O=>(DS O B g)∧(Gr g w O)∧(w3≤O.heap.size)∧(hp O w=some (.cells #[.int .i64 0,.int .i64 0,.int .i64 0,.int .i64 0,.slice none 0 0,.slice none 0 0,.slice none 0 0,.slice none 0 0,.int .i64 0] 35))∧(hp O H=some (.cells #[x.ch.cap,x.ch.sent,x.ch.got,x.ch.fin,.slice a x.ch.cells p1,.slice b x.ch.words p2,.slice (some ⟨T,0,none⟩) x.hands p3,.slice e x.deals p4,x.now] 35))∧(aF O (w+1) (.slice a x.ch.cells p1) x.ch.cells)∧(aI O (w+1) (.slice b x.ch.words p2) x.ch.words)∧(gU O (w+1) (.slice e x.deals p4) x.deals)∧(l 6=false→dY O (w+1) (.slice (some ⟨T,0,none⟩) x.hands p3) x.hands)∧(l 6=true→∃ y:Ha,dY O (w+1) (.slice (some ⟨T,0,none⟩) x.hands p3) (x.hands.set 0 y))∧(l 0=true→s 44=.pointer (some ⟨H,6,none⟩))∧(l 1=true→s 45=.slice (some ⟨T,0,none⟩) x.hands p3)∧(l 2=true→s 46=.pointer (some ⟨g,0,none⟩))∧(l 3=true→∃ z:Int,s 47=.int .i64 z)∧(l 4=true→s 48=.pointer (some ⟨T,0,none⟩))∧(l 5=true→s 49=.pointer (some ⟨T,0,none⟩))) (fun s=>⟨ab.drew,gD a9,Nat.le_refl _,L,I,M.1.drew,M.2.1.drew,M.2.2.2.drew,fun _=>M.2.2.1.drew,nB,nB,nB,nB,nB,nB,nB⟩) ?_ ?_
   refine ⟨?_,?_,?_,?_,?_,?_,?_,trivial⟩;iterate 7 (intro l s O hl hd hn F K hK;rotate_left)
   ·intro l s wf aa F
    have b3:=F.1;have b2:=F.2.1;have au:=F.2.2.2.1;have ac:=F.2.2.2.2.1;have m1:=(jC F).2.1;have m2:=(jC F).2.2.1;have m4:=(jC F).2.2.2.1;have Xg:=(jD F).2.1 (aa 6 rfl);obtain ⟨y,m3⟩:=Xg;clear F aa Y X V a3 a5 a2 L I;obtain ⟨Y,X,V⟩:=bO au;obtain ⟨a3,a5,a2⟩:=bO ac;have ey:(x.hands.set 0 y).length=x.hands.length:=List.length_set;obtain ⟨S,N,i1,i2,i3,i4⟩:=mZ (x:={ x with hands:=x.hands.set 0 y }) (p3:=p3) ⟨m1,m2,by show dY _ _ (.slice _ (x.hands.set 0 y).length _) _;rw [ey];exact m3,m4⟩
    have L6:qi { x with hands:=x.hands.set 0 y }:=⟨J.1,J.2.1,by show (x.hands.set 0 y).length≤_;rw [ey];exact J.2.2.1,J.2.2.2⟩
    go_wp2;refine bodyPost_ret (v:=.agg #[x.ch.cap,x.ch.sent,x.ch.got,x.ch.fin,.slice a x.ch.cells p1,.slice b x.ch.words p2,.slice (some ⟨T,0,none⟩) (x.hands.set 0 y).length p3,.slice e x.deals p4,x.now]) zH rfl ?_;generalize a1:World.setCell _ _ _=W';refine qm (x:={ x with hands:=x.hands.set 0 y }) (W:=wf) b3 b2 zL a6 S N L6 (by show (x.hands.set 0 y).length≤6;omega) i1 i2 i3 i4 (Fz.own m1)
   ·go_simp
    refine hK.out (upd s 44 (.pointer (some ⟨H,6,none⟩))) _ _ gM (kD (kB (kX (fun _=>rfl) id)) F.out)
   ·have e0:=((jD F.out).2.2.1 (hd 0 rfl))
    have q:O.cell? ⟨H,6,none⟩=some (.slice (some ⟨T,0,none⟩) x.hands p3):=(bO F.out.2.2.2.2.1).1 6;go_simp;refine hK.out (upd s 45 (.slice (some ⟨T,0,none⟩) x.hands p3)) _ _ yj (kD (kB (kA (kX (fun _=>rfl) id))) F.out)
   ·go_simp
    refine hK.out (upd s 46 (.pointer (some ⟨g,0,none⟩))) _ _ gM (kD (kC (kX (fun _=>rfl) id)) F.out)
   ·have e2:=((jC (jD F.out)).1 (hd 2 rfl))
    go_simp
    go_at_call 116
    refine (nE B g 0 26 _ F.out.1 tO tO tO tO).mono ?_;rintro _ wy ⟨⟨z,rfl,_,_⟩,ae,G⟩;refine hK.out (upd s 47 (.int .i64 z)) _ _ wR (kX (ae) (kX (gT F.out.2.1 G) (kX (Nat.le_trans F.out.2.2.1 (World.grownBy.size G)) (kX ((bM G (bO F.out.2.2.2.1).2.2 a7).trans F.out.2.2.2.1) (kX ((bM G (bO F.out.2.2.2.2.1).2.2 af).trans F.out.2.2.2.2.1) (kX (World.ownsRow.kept (jC F.out).2.1 G (.inr (own_ne (jC F.out).2.1 tO))) (kX (World.ownsRow.kept (jC F.out).2.2.1 G (.inr (own_ne (jC F.out).2.2.1 tO))) (kX (World.ownsRow.kept (jC F.out).2.2.2.1 G (.inr (own_ne (jC F.out).2.2.2.1 tO))) (kX (fun Z=>World.ownsRow.kept ((jD F.out).1 Z) G (.inr (own_ne ((jD F.out).1 Z) tO))) (kX (fun Z=>nU (show l 6=false from hn 6 rfl) Z) (kB (kA (kX (fun _=>⟨_,rfl⟩) id)))))))))))) F.out)
   ·have e1:=((jD F.out).2.2.2.1 (hd 1 rfl))
    go_simp;refine hK.out (upd s 48 (.pointer (some ⟨T,0,none⟩))) _ _ pQ (kD (kC (kB (kX (fun _=>rfl) id))) F.out)
   ·have e4:=((jC (jD F.out)).2.2.1 (hd 4 rfl))
    go_simp;refine hK.out (upd s 49 (.pointer (some ⟨T,0,none⟩))) _ _ zJ (kD (kC (kB (kA (fun _=>fun _=>rfl)))) F.out)
   ·have e5:=((jC (jD F.out)).2.2.2 (hd 5 rfl))
    obtain ⟨z,e3⟩:=((jC (jD F.out)).2.1 (hd 3 rfl));have ak:=(jD F.out).1 hl;have U:O.grownBy (O.setCell ⟨T,0,none⟩ (.int .i64 z)) (some T):=gS (gR _ O) (.inl rfl);obtain ⟨g4,c4,ba,_,d0,bh,bi⟩:=dY.open1 ak (i:=0) tO;simp at ba;obtain ⟨rfl,rfl⟩:=ba;have q0:=bh 0 tO;simp at q0;have q1:=bi 0;go_simp;refine hK.out (s) _ _ (by simp [aX,e5,e3] <;> rfl) (kX (F.out.1.grown U (fun k hk=>by simp at hk;omega)) (kX (F.out.2.1.grown U (fun k hk=>by simp at hk;omega)) (kX (Nat.le_trans F.out.2.2.1 (World.grownBy.size U)) (kX ((bM U (bO F.out.2.2.2.1).2.2 dQ).trans F.out.2.2.2.1) (kX ((bM U (bO F.out.2.2.2.2.1).2.2 (by simpa using ce)).trans F.out.2.2.2.2.1) (kX (World.ownsRow.kept (jC F.out).2.1 U (.inr (jd (dF (jC F.out).2.1 ak cB) rfl))) (kX (World.ownsRow.kept (jC F.out).2.2.1 U (.inr (jd (dF (jC F.out).2.2.1 ak cB) rfl))) (kX (World.ownsRow.kept (jC F.out).2.2.2.1 U (.inr (jd (dF (jC F.out).2.2.2.1 ak cB) rfl))) (kX (fun Z=>nU Z (show upd l 6 true 6=true from rfl)) (kX (fun _=>⟨_,by have:=dY.pos ak tO z;rw [List.length_set] at this;exact this⟩) id))))))))) F.out)
  ·go_wp2_with fail
   refine (Cz B g _ ab).mono ?_;rintro _ w4 ⟨⟨c,ca,cp,cv,rfl,⟨s1,f1⟩,t1,b5,av,cy,cz⟩,ao,a0⟩;have am:Gr g w w4:=gT a9 a0;have cg:H<w3.heap.size:=a2;have ci:w<w3.heap.size:=V;replace L:=(bM a0 (bO L).2.2 a7).trans L;replace I:=(bM a0 (bO I).2.2 af).trans I;replace M:=M.gr a0 tO;clear Y X V a3 a5 a2;obtain ⟨Y,X,V⟩:=bO L;obtain ⟨a3,a5,a2⟩:=bO I;obtain ⟨cb,cq,rfl,_⟩:=aI.seg av;have gb:w4.grownBy ((((((w4.setCell ⟨H,0,none⟩ (.int .i64 c.cap)).setCell ⟨H,1,none⟩ (.int .i64 c.sent)).setCell ⟨H,2,none⟩ (.int .i64 c.got)).setCell ⟨H,3,none⟩ (.int .i64 c.fin)).setCell ⟨H,4,none⟩ (.slice ca c.cells cp)).setCell ⟨H,5,none⟩ (.slice cb c.words cq)) (some H.heap.size):=gS (gS (gS (gS (gS (gS (gR _ _) (.inl rfl)) (.inl rfl)) (.inl rfl)) (.inl rfl)) (.inl rfl)) (.inl rfl)
   obtain ⟨s2,t2⟩:=aI.segz av;obtain ⟨S,N,i1,i2,i3,i4⟩:=mZ M;have S6:lX ((((((w4.setCell ⟨H,0,none⟩ (.int .i64 c.cap)).setCell ⟨H,1,none⟩ (.int .i64 c.sent)).setCell ⟨H,2,none⟩ (.int .i64 c.got)).setCell ⟨H,3,none⟩ (.int .i64 c.fin)).setCell ⟨H,4,none⟩ (.slice ca c.cells cp)).setCell ⟨H,5,none⟩ (.slice cb c.words cq)) (((((((w4.setCell ⟨H,0,none⟩ (.int .i64 c.cap)).setCell ⟨H,1,none⟩ (.int .i64 c.sent)).setCell ⟨H,2,none⟩ (.int .i64 c.got)).setCell ⟨H,3,none⟩ (.int .i64 c.fin)).setCell ⟨H,4,none⟩ (.slice ca c.cells cp)).setCell ⟨H,5,none⟩ (.slice cb c.words cq))).heap.size { x with ch:=c } ca cb d e:=⟨Seg.grown (B:=0) s1 gb (fun ad R k=>by have:=b5 ad R;simp at k;omega),Seg.grown (B:=0) s2 gb (fun ad R k=>fe av I cB ad.block (by subst R;rfl) (by simpa using k.symm)),Seg.grown (B:=0) S.2.2.1 gb (fun ad R k=>fe M.2.2.1 I cB ad.block (by subst R;rfl) (by simpa using k.symm)),Seg.grown (B:=0) S.2.2.2 gb (fun ad R k=>fe M.2.2.2 I cB ad.block (by subst R;rfl) (by simpa using k.symm))⟩
   have N6:pJ { x with ch:=c } ca cb d e cp cq p3 p4:=⟨t1,t2,N.2.2.1,N.2.2.2⟩
   have L6:qi { x with ch:=c }:=⟨by show c.cells.length≤_;omega,by show c.words.length≤_;omega,J.2.2.1,J.2.2.2⟩
   have c8:Hi (w+1) ca:=fun ad R=>by have:=b5 ad R;omega
   have c9:Hi (w+1) cb:=fun ad R=>by have:=BC av ad R;omega
   have an:DS ((((((w4.setCell ⟨H,0,none⟩ (.int .i64 c.cap)).setCell ⟨H,1,none⟩ (.int .i64 c.sent)).setCell ⟨H,2,none⟩ (.int .i64 c.got)).setCell ⟨H,3,none⟩ (.int .i64 c.fin)).setCell ⟨H,4,none⟩ (.slice ca c.cells cp)).setCell ⟨H,5,none⟩ (.slice cb c.words cq)) B g:=ao.grown gb (fun k hk=>by simp at hk;omega);have al:Gr g w ((((((w4.setCell ⟨H,0,none⟩ (.int .i64 c.cap)).setCell ⟨H,1,none⟩ (.int .i64 c.sent)).setCell ⟨H,2,none⟩ (.int .i64 c.got)).setCell ⟨H,3,none⟩ (.int .i64 c.fin)).setCell ⟨H,4,none⟩ (.slice ca c.cells cp)).setCell ⟨H,5,none⟩ (.slice cb c.words cq)):=am.grown gb (fun k hk=>by simp at hk;omega)
   go_wp2;refine bodyPost_ret (v:=.agg #[c.cap,c.sent,c.got,c.fin,.slice ca c.cells cp,.slice cb c.words cq,.slice d x.hands p3,.slice e x.deals p4,x.now]) zH rfl ?_;generalize a1:World.setCell _ _ _=W';refine qm (x:={ x with ch:=c }) (W:=((((((w4.setCell ⟨H,0,none⟩ (.int .i64 c.cap)).setCell ⟨H,1,none⟩ (.int .i64 c.sent)).setCell ⟨H,2,none⟩ (.int .i64 c.got)).setCell ⟨H,3,none⟩ (.int .i64 c.fin)).setCell ⟨H,4,none⟩ (.slice ca c.cells cp)).setCell ⟨H,5,none⟩ (.slice cb c.words cq))) an al zL a6 S6 N6 L6 h6 c8 c9 i3 i4 (f1.grown gb (fun ad R k9=>by have:=b5 ad R;simp at k9;omega))
end
end Go.Proofs.YtffhjmepfojhnaaGreat
