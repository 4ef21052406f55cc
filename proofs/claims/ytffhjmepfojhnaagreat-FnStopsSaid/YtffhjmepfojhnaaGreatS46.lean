/-
  The draw of a channel: at most 40 cells and 38 words, its words the call's own; only the cursor turns; the drawn bytes are at most 4096.
-/
import Derived.Test.YtffhjmepfojhnaaGreatS42
import Derived.Deep.RegionLaw
import Derived.Test.YtffhjmepfojhnaaGreatS01
import Derived.Test.YtffhjmepfojhnaaGreatS27
import Derived.Test.YtffhjmepfojhnaaGreatS15
import Derived.Test.YtffhjmepfojhnaaGreatS04
set_option maxRecDepth 100000
set_option maxHeartbeats 8000000
set_option linter.unusedSimpArgs false
set_option linter.unusedVariables false
namespace Go.Proofs.YtffhjmepfojhnaaGreat
open _root_.Go.Proofs.Tryz
section
open Go.RowKit
attribute [local simp] aP
attribute [local go_sem ↓] aQ aY aZ gK aN
attribute [local go_sem] fF
def QA (w':World) (lo:Nat) (r:Ending):Prop:=∃ (c:Ch) (a:Option Addr) (p:Nat) (v2:Value),r=.returned (.agg #[c.cap,c.sent,c.got,c.fin,.slice a c.cells p,v2])∧fA w' w' a c.cells∧(a=none→p=0)∧(∀ ad,a=some ad→lo≤ad.block)∧aG w' lo v2 c.words∧c.cells.length≤40∧c.words.length≤38
def QB (w':World) (lo:Nat) (r:Ending):Prop:=∃ (c:Ch) (a:Option Addr) (p:Nat) (v2:Value),r=.returned (.agg #[c.cap,c.sent,c.got,c.fin,.slice a c.cells p,v2])∧fA w' w' a c.cells∧(a=none→p=0)∧(∀ ad,a=some ad→lo≤ad.block)∧aG w' lo v2 c.words∧c.cells.length≤40∧c.words.length≤38∧∀ ad,a=some ad→v2.ownBlock≠some ad.block
theorem nH {a:Option Addr} {n p:Nat} {q:Value} (h:(Value.slice a n p).ownBlock=none∨(Value.slice a n p).ownBlock≠q.ownBlock) (m:Addr) (e:a=some m):q.ownBlock≠some m.block:=by
 subst e
 rcases h with h|h
 ·simp [Value.ownBlock] at h
 ·exact fun k=>h (by rw [k];rfl)
theorem DS.grown {w w':World} {B g:Nat} {row:Option Nat} (h:DS w B g) (m:w.grownBy w' row) (q:∀ k,row=some k→g<k):DS w' B g :=
 h.keep (m.block g h.lt (fun e=>by have:=q _ e.symm;omega)) (iN (Below.refl _ _) m (by have:=h.le;have:=h.lt;omega) (fun k r=>by have:=q k r;have:=h.le;omega))
theorem Gr.grown {w W w':World} {g:Nat} {row:Option Nat} (h:Gr g w W) (m:W.grownBy w' row) (u:∀ k,row=some k→w.heap.size≤k):Gr g w w' :=
 ⟨m.os.trans h.os,m.tape.trans h.tape,m.output.trans h.output,Nat.le_trans h.size m.size,fun i q r=>(m.block i (Nat.lt_of_lt_of_le q h.size) (fun e=>by have:=u _ e.symm;omega)).trans (h.block i q r)⟩
theorem aD.opens {w:World} {lo p:Nat} {a:Option Addr} {cs:List C3} (h:aD w lo (.slice a cs.length p) cs) (E:0<cs.length):∃ g,a=some ⟨g,0,none⟩∧lo≤g∧g<w.heap.size∧cs.length≤p∧(∀ i j,i<cs.length→j<3→w.cell? ⟨g,i*3+j,none⟩=some (iq cs i j))∧∀ o,w.frozen? ⟨g,o,none⟩=false:=by
 have r:=h
 rcases h.2 with ⟨_,D⟩|⟨g,cap,q,e,A,m,u,_⟩
 ·omega
 ·simp at e
  obtain ⟨rfl,rfl⟩:=e
  refine ⟨g,rfl,A,(Array.getElem?_eq_some_iff.1 m).1,u,fun i j y z=>?_,fun o=>by simp [World.frozen?,m]⟩
  have:=r.cells (g:=g) rfl (i*3+j) _ (jf cs i j y z)
  rw [← this]
  congr 1
  by_cases e:i*3+j=0 <;> simp [Addr.add,e] <;> omega
theorem aD.low {w:World} {lo p:Nat} {a:Option Addr} {cs:List C3} (h:aD w lo (.slice a cs.length p) cs) (m:Addr) (e:a=some m):lo≤m.block:=by
 subst e
 exact (h.lt m.block rfl).1
theorem aD.segz {w:World} {lo p:Nat} {a:Option Addr} {cs:List C3} (h:aD w lo (.slice a cs.length p) cs):fA w w a cs∧(a=none→p=0):=by
 obtain ⟨u,y,e,hs,r⟩:=lY h fun i j m q=>jf cs i j m q
 simp at e
 obtain ⟨rfl,rfl⟩:=e
 exact ⟨hs,fun h=>(r h).2⟩
theorem aG.segz {w:World} {lo p:Nat} {a:Option Addr} {l:List Int} (h:aG w lo (.slice a l.length p) l):fD w w a l∧(a=none→p=0):=by
 obtain ⟨r,y,e,hs,q⟩:=lY (f:=jT l) h fun i j m u=>by
  have:j=0:=by omega
  subst this
  simp [ints,jT,List.getD,m]
 simp at e
 obtain ⟨rfl,rfl⟩:=e
 exact ⟨hs,fun h=>(q h).2⟩
theorem Np {w:World} {lo p z:Nat} {g:Nat} {cs:List C3} {c:C3} (h:aD w lo (.slice (some ⟨g,0,none⟩) cs.length p) (cs.set z c)):Seg w w (some ⟨g,0,none⟩) (cs.set z c).length 3 (iq (cs.set z c)):=by
 have e:cs.length=(cs.set z c).length:=by simp
 rw [e] at h
 exact (aD.segz h).1
theorem Seg.tail {w:World} {B k:Nat} {a:Addr} {c:C3} {cs:List C3} (h:Seg w B (some a) (c :: cs).length 3 (iq (c :: cs))) (u:k=a.off+3) (hs:a.spot=none):Seg w B (some ⟨a.block,k,none⟩) cs.length 3 (iq cs):=by
 rcases h with h|⟨b,o,e,m,q⟩
 ·simp at h
 ·simp at e
  subst e
  refine .inr ⟨b,k,rfl,m,fun i j y r=>?_⟩
  have:=q (i+1) j (by simp;omega) r
  simp [iq] at this ⊢
  rw [← this]
  congr 2
  simp at u
  omega
theorem Kq (m q r u A:Int) (y z D E:Value) (w:World):(Instr.field 35 (.agg #[.int .i64 m,.int .i64 q,.int .i64 r,.int .i64 u,y,z,D,E,.int .i64 A]) 0).run prog w=.ok (.agg #[.int .i64 m,.int .i64 q,.int .i64 r,.int .i64 u,y,z]) w:=by kernel_rfl
theorem yF (B g:Nat) (w:World) (hd:DS w B g):Calls prog 166 #[.pointer (some ⟨g,0,none⟩)] w fun r w'=>QB w' w r∧DS w' B g∧Gr g w w':=by
 have hl:=hd.lt
 have cv:=hd.le
 have af:some w.heap.size≠some g:=by simp;omega
 go_enter func166,ntmps166
 go_wp2_with fail;refine (uR B g  _ zD ).mono ?_;rintro _ I ⟨⟨x,v1,v2,v3,v4,rfl,ah,hx,cx,_⟩,b5,a9⟩;have cc:Gr g w I:=gT lh a9;have cg:=b5.lt;have am:=a9.size;(try (simp at am))
 have am:=a9.size;(try (simp at am));have zz:=bE a9 (b:=w) tS (by assumption);(try simp [go_sem] at zz);(try clear A K J H);have A:=zz;clear zz;obtain ⟨K,J,H⟩:=bO A
 replace ah:dO I (w+1) v1 v2 v3 v4 x:=by simpa using ah
 have N:=aA ah
 obtain ⟨V,O,a3,a4,R,c2,c3,c4,rfl,rfl,rfl,rfl,_⟩:=ah.opens
 have cp:=Kq
 have a8:=aA (dD N.out.1 N.out.2.1 (by decide))
 have a7:=aA (lQ hx.ch).1
 have ab:x.ch.cells.length≤40:=by rw [a7.out];omega
 have ac:x.ch.words.length≤38:=by omega
 have ai:some I.heap.size≠some g:=by simp;omega
 have cw:w<I.heap.size:=by omega
 clear A J K
 have A:hp I w=some (.cells #[.int .i64 0,.int .i64 0,.int .i64 0,.int .i64 0,.slice none 0 0,.slice none 0 0] 31):=(bE a9 (by simp) af).trans (by simp [go_sem])
 have b1:∀ j,(Value.slice V x.ch.cells R).ownBlock=some j→j<I.heap.size:=fun j hj=>(N.out.1.lt j hj).2
 have b2:∀ j,(Value.slice O x.ch.words c2).ownBlock=some j→j<I.heap.size:=fun j hj=>(N.out.2.1.lt j hj).2
 have m1:(Value.slice V x.ch.cells R).ownBlock≠some I.heap.size:=fun e=>by have:=b1 _ e;omega
 have m2:(Value.slice O x.ch.words c2).ownBlock≠some I.heap.size:=fun e=>by have:=b2 _ e;omega
 have n2:(Value.slice O x.ch.words c2).ownBlock≠some w.heap.size:=own_ne N.out.2.1 tO
 have n1:(Value.slice V x.ch.cells R).ownBlock≠some w.heap.size:=own_ne N.out.1 tO
 go_wp2_with fail;refine (iL B g 6  _ zD  tO tO).mono ?_;rintro _ w2 ⟨⟨y2,rfl⟩,b6,Z⟩;have cd:Gr g w w2:=gT lh Z;have ci:=b6.lt;have bb:=Z.size;(try (simp at bb))
 have bi:=Z.size
 (try simp at bi)
 have u:hp w2 I=some (.cells #[x.ch.cap,x.ch.sent,x.ch.got,x.ch.fin,.slice V x.ch.cells R,.slice O x.ch.words c2] 31):=(bE Z (by (try simp) <;> (try omega)) ai).trans tY
 have G:hp w2 w=some (.cells #[.int .i64 0,.int .i64 0,.int .i64 0,.int .i64 0,.slice none 0 0,.slice none 0 0] 31):=(bE Z (by (try simp) <;> (try omega)) af).trans tY
 have p1:aD w2 (w+1) (.slice V x.ch.cells R) x.ch.cells:=(World.ownsRow.alloc N.out.1 _).kept Z (.inr (own_ne N.out.1 tO))
 have p2:aG w2 (w+1) (.slice O x.ch.words c2) x.ch.words:=(World.ownsRow.alloc N.out.2.1 _).kept Z (.inr (own_ne N.out.2.1 tO))
 clear A H
 have H:w<w2.heap.size:=by omega
 have y:I<w2.heap.size:=by omega
 have K:∀ o,w2.cell? ⟨w,o,none⟩=_:=fun o=>cell_of_row w2 w o _ _ _ G
 have F:∀ o,w2.cell? ⟨I,o,none⟩=_:=fun o=>cell_of_row w2 I o _ _ _ u
 have J:∀ o,w2.frozen? ⟨w,o,none⟩=false:=dH G
 have E:∀ o,w2.frozen? ⟨I,o,none⟩=false:=dH u
 have A:=G
 have q:=u
 have L:=p1
 have U:=p2
 clear G u p1 p2
 cases y2
 ·go_wp2
  refine bodyPost_ret (v:=.agg #[x.ch.cap,x.ch.sent,x.ch.got,x.ch.fin,.slice V x.ch.cells R,.slice O x.ch.words c2]) (by simp [results,results166,go_sem, *]) rfl ⟨⟨x.ch,V,R,.slice O x.ch.words c2,rfl,?_,?_,?_,?_,?_,?_,?_⟩,?_,?_⟩
  ·exact (aD.segz (lo:=w+1) (by (repeat (first|with_reducible exact L|with_reducible refine World.ownsRow.alloc ?_ _|with_reducible refine World.ownsRow.drew ?_|((with_reducible refine aI ?_ ?_ _);rotate_left;(focus (first|exact n1|exact m1))))))).1
  ·exact (aD.segz (lo:=w+1) (by (repeat (first|with_reducible exact L|with_reducible refine World.ownsRow.alloc ?_ _|with_reducible refine World.ownsRow.drew ?_|((with_reducible refine aI ?_ ?_ _);rotate_left;(focus (first|exact n1|exact m1))))))).2
  ·exact fun ad e=>Nat.le_of_succ_le (aD.low N.out.1 ad e)
  ·exact aH (lo:=w+1) (by (repeat (first|with_reducible exact U|with_reducible refine World.ownsRow.alloc ?_ _|with_reducible refine World.ownsRow.drew ?_|((with_reducible refine aI ?_ ?_ _);rotate_left;(focus (first|exact n2|exact m2)))))) tO
  ·exact ab
  ·exact ac
  ·exact nH a8.out
  ·exact zD
  ·exact lh
 ·go_wp2_with fail;refine (eG B g 7  _ zD  tO tO).mono ?_;rintro _ w3 ⟨⟨x3,rfl,bp,bq⟩,b7,a0⟩;have ce:Gr g w w3:=gT lh a0;have cj:=b7.lt;have bc:=a0.size;(try (simp at bc))
  have bj:=a0.size
  (try simp at bj)
  have u:hp w3 I=some (.cells #[x.ch.cap,x.ch.sent,x.ch.got,x.ch.fin,.slice V x.ch.cells R,.slice O x.ch.words c2] 31):=(bE a0 (by (try simp) <;> (try omega)) ai).trans tY
  have G:hp w3 w=some (.cells #[.int .i64 0,.int .i64 0,.int .i64 0,.int .i64 0,.slice none 0 0,.slice none 0 0] 31):=(bE a0 (by (try simp) <;> (try omega)) af).trans tY
  have p1:aD w3 (w+1) (.slice V x.ch.cells R) x.ch.cells:=L.kept a0 (.inr (own_ne N.out.1 tO))
  have p2:aG w3 (w+1) (.slice O x.ch.words c2) x.ch.words:=U.kept a0 (.inr (own_ne N.out.2.1 tO))
  clear A q K F J E H y L U
  have H:w<w3.heap.size:=by omega
  have y:I<w3.heap.size:=by omega
  have K:∀ o,w3.cell? ⟨w,o,none⟩=_:=fun o=>cell_of_row w3 w o _ _ _ G
  have F:∀ o,w3.cell? ⟨I,o,none⟩=_:=fun o=>cell_of_row w3 I o _ _ _ u
  have J:∀ o,w3.frozen? ⟨w,o,none⟩=false:=dH G
  have E:∀ o,w3.frozen? ⟨I,o,none⟩=false:=dH u
  have A:=G
  have q:=u
  have L:=p1
  have U:=p2
  clear G u p1 p2
  have bz:x3=0∨x3=1∨x3=2∨x3=3∨x3=4∨x3=5∨x3=6:=by omega
  clear bp bq
  rcases bz with rfl|rfl|rfl|rfl|rfl|rfl|rfl
  ·go_wp2_with fail;refine (lL B g 4  _ zD  tO tO).mono ?_;rintro _ D ⟨⟨M,rfl⟩,X,m⟩;have aj:Gr g w D:=gT lh m;have al:=X.lt;have T:=m.size;(try (simp at T))
   have a5:=m.size
   (try simp at a5)
   have u:hp D I=some (.cells #[x.ch.cap,x.ch.sent,x.ch.got,x.ch.fin,.slice V x.ch.cells R,.slice O x.ch.words c2] 31):=(bE m (by (try simp) <;> (try omega)) ai).trans tY
   have G:hp D w=some (.cells #[.int .i64 0,.int .i64 0,.int .i64 0,.int .i64 0,.slice none 0 0,.slice none 0 0] 31):=(bE m (by (try simp) <;> (try omega)) af).trans tY
   have p1:aD D (w+1) (.slice V x.ch.cells R) x.ch.cells:=L.kept m (.inr (own_ne N.out.1 tO))
   have p2:aG D (w+1) (.slice O x.ch.words c2) x.ch.words:=U.kept m (.inr (own_ne N.out.2.1 tO))
   clear A q K F J E H y L U
   have H:w<D.heap.size:=by omega
   have y:I<D.heap.size:=by omega
   have K:∀ o,D.cell? ⟨w,o,none⟩=_:=fun o=>cell_of_row D w o _ _ _ G
   have F:∀ o,D.cell? ⟨I,o,none⟩=_:=fun o=>cell_of_row D I o _ _ _ u
   have J:∀ o,D.frozen? ⟨w,o,none⟩=false:=dH G
   have E:∀ o,D.frozen? ⟨I,o,none⟩=false:=dH u
   have A:=G
   have q:=u
   have L:=p1
   have U:=p2
   clear G u p1 p2
   go_wp2
   refine bodyPost_ret (v:=.agg #[.int .i64 { x.ch with cap:=M }.cap,.int .i64 { x.ch with cap:=M }.sent,.int .i64 { x.ch with cap:=M }.got,.int .i64 { x.ch with cap:=M }.fin,.slice V { x.ch with cap:=M }.cells.length R,.slice O x.ch.words c2]) (by simp [results,results166,go_sem, *]) rfl ⟨⟨{ x.ch with cap:=M },V,R,.slice O x.ch.words c2,rfl,?_,?_,?_,?_,?_,?_,?_⟩,?_,?_⟩
   ·exact (aD.segz (lo:=w+1) (by (repeat (first|with_reducible exact L|with_reducible refine World.ownsRow.alloc ?_ _|with_reducible refine World.ownsRow.drew ?_|((with_reducible refine aI ?_ ?_ _);rotate_left;(focus (first|exact n1|exact m1))))))).1
   ·exact (aD.segz (lo:=w+1) (by (repeat (first|with_reducible exact L|with_reducible refine World.ownsRow.alloc ?_ _|with_reducible refine World.ownsRow.drew ?_|((with_reducible refine aI ?_ ?_ _);rotate_left;(focus (first|exact n1|exact m1))))))).2
   ·exact fun ad e=>Nat.le_of_succ_le (aD.low N.out.1 ad e)
   ·exact aH (lo:=w+1) (by (repeat (first|with_reducible exact U|with_reducible refine World.ownsRow.alloc ?_ _|with_reducible refine World.ownsRow.drew ?_|((with_reducible refine aI ?_ ?_ _);rotate_left;(focus (first|exact n2|exact m2)))))) tO
   ·exact ab
   ·exact ac
   ·exact nH a8.out
   ·exact zD
   ·exact lh
  ·go_wp2_with fail;refine (lL B g 40  _ zD  tO tO).mono ?_;rintro _ D ⟨⟨M,rfl⟩,X,m⟩;have aj:Gr g w D:=gT lh m;have al:=X.lt;have T:=m.size;(try (simp at T))
   have a5:=m.size
   (try simp at a5)
   have u:hp D I=some (.cells #[x.ch.cap,x.ch.sent,x.ch.got,x.ch.fin,.slice V x.ch.cells R,.slice O x.ch.words c2] 31):=(bE m (by (try simp) <;> (try omega)) ai).trans tY
   have G:hp D w=some (.cells #[.int .i64 0,.int .i64 0,.int .i64 0,.int .i64 0,.slice none 0 0,.slice none 0 0] 31):=(bE m (by (try simp) <;> (try omega)) af).trans tY
   have p1:aD D (w+1) (.slice V x.ch.cells R) x.ch.cells:=L.kept m (.inr (own_ne N.out.1 tO))
   have p2:aG D (w+1) (.slice O x.ch.words c2) x.ch.words:=U.kept m (.inr (own_ne N.out.2.1 tO))
   clear A q K F J E H y L U
   have H:w<D.heap.size:=by omega
   have y:I<D.heap.size:=by omega
   have K:∀ o,D.cell? ⟨w,o,none⟩=_:=fun o=>cell_of_row D w o _ _ _ G
   have F:∀ o,D.cell? ⟨I,o,none⟩=_:=fun o=>cell_of_row D I o _ _ _ u
   have J:∀ o,D.frozen? ⟨w,o,none⟩=false:=dH G
   have E:∀ o,D.frozen? ⟨I,o,none⟩=false:=dH u
   have A:=G
   have q:=u
   have L:=p1
   have U:=p2
   clear G u p1 p2
   go_wp2
   refine bodyPost_ret (v:=.agg #[.int .i64 { x.ch with sent:=M }.cap,.int .i64 { x.ch with sent:=M }.sent,.int .i64 { x.ch with sent:=M }.got,.int .i64 { x.ch with sent:=M }.fin,.slice V { x.ch with sent:=M }.cells.length R,.slice O x.ch.words c2]) (by simp [results,results166,go_sem, *]) rfl ⟨⟨{ x.ch with sent:=M },V,R,.slice O x.ch.words c2,rfl,?_,?_,?_,?_,?_,?_,?_⟩,?_,?_⟩
   ·exact (aD.segz (lo:=w+1) (by (repeat (first|with_reducible exact L|with_reducible refine World.ownsRow.alloc ?_ _|with_reducible refine World.ownsRow.drew ?_|((with_reducible refine aI ?_ ?_ _);rotate_left;(focus (first|exact n1|exact m1))))))).1
   ·exact (aD.segz (lo:=w+1) (by (repeat (first|with_reducible exact L|with_reducible refine World.ownsRow.alloc ?_ _|with_reducible refine World.ownsRow.drew ?_|((with_reducible refine aI ?_ ?_ _);rotate_left;(focus (first|exact n1|exact m1))))))).2
   ·exact fun ad e=>Nat.le_of_succ_le (aD.low N.out.1 ad e)
   ·exact aH (lo:=w+1) (by (repeat (first|with_reducible exact U|with_reducible refine World.ownsRow.alloc ?_ _|with_reducible refine World.ownsRow.drew ?_|((with_reducible refine aI ?_ ?_ _);rotate_left;(focus (first|exact n2|exact m2)))))) tO
   ·exact ab
   ·exact ac
   ·exact nH a8.out
   ·exact zD
   ·exact lh
  ·go_wp2_with fail;refine (lL B g 40  _ zD  tO tO).mono ?_;rintro _ D ⟨⟨M,rfl⟩,X,m⟩;have aj:Gr g w D:=gT lh m;have al:=X.lt;have T:=m.size;(try (simp at T))
   have a5:=m.size
   (try simp at a5)
   have u:hp D I=some (.cells #[x.ch.cap,x.ch.sent,x.ch.got,x.ch.fin,.slice V x.ch.cells R,.slice O x.ch.words c2] 31):=(bE m (by (try simp) <;> (try omega)) ai).trans tY
   have G:hp D w=some (.cells #[.int .i64 0,.int .i64 0,.int .i64 0,.int .i64 0,.slice none 0 0,.slice none 0 0] 31):=(bE m (by (try simp) <;> (try omega)) af).trans tY
   have p1:aD D (w+1) (.slice V x.ch.cells R) x.ch.cells:=L.kept m (.inr (own_ne N.out.1 tO))
   have p2:aG D (w+1) (.slice O x.ch.words c2) x.ch.words:=U.kept m (.inr (own_ne N.out.2.1 tO))
   clear A q K F J E H y L U
   have H:w<D.heap.size:=by omega
   have y:I<D.heap.size:=by omega
   have K:∀ o,D.cell? ⟨w,o,none⟩=_:=fun o=>cell_of_row D w o _ _ _ G
   have F:∀ o,D.cell? ⟨I,o,none⟩=_:=fun o=>cell_of_row D I o _ _ _ u
   have J:∀ o,D.frozen? ⟨w,o,none⟩=false:=dH G
   have E:∀ o,D.frozen? ⟨I,o,none⟩=false:=dH u
   have A:=G
   have q:=u
   have L:=p1
   have U:=p2
   clear G u p1 p2
   go_wp2
   refine bodyPost_ret (v:=.agg #[.int .i64 { x.ch with got:=M }.cap,.int .i64 { x.ch with got:=M }.sent,.int .i64 { x.ch with got:=M }.got,.int .i64 { x.ch with got:=M }.fin,.slice V { x.ch with got:=M }.cells.length R,.slice O x.ch.words c2]) (by simp [results,results166,go_sem, *]) rfl ⟨⟨{ x.ch with got:=M },V,R,.slice O x.ch.words c2,rfl,?_,?_,?_,?_,?_,?_,?_⟩,?_,?_⟩
   ·exact (aD.segz (lo:=w+1) (by (repeat (first|with_reducible exact L|with_reducible refine World.ownsRow.alloc ?_ _|with_reducible refine World.ownsRow.drew ?_|((with_reducible refine aI ?_ ?_ _);rotate_left;(focus (first|exact n1|exact m1))))))).1
   ·exact (aD.segz (lo:=w+1) (by (repeat (first|with_reducible exact L|with_reducible refine World.ownsRow.alloc ?_ _|with_reducible refine World.ownsRow.drew ?_|((with_reducible refine aI ?_ ?_ _);rotate_left;(focus (first|exact n1|exact m1))))))).2
   ·exact fun ad e=>Nat.le_of_succ_le (aD.low N.out.1 ad e)
   ·exact aH (lo:=w+1) (by (repeat (first|with_reducible exact U|with_reducible refine World.ownsRow.alloc ?_ _|with_reducible refine World.ownsRow.drew ?_|((with_reducible refine aI ?_ ?_ _);rotate_left;(focus (first|exact n2|exact m2)))))) tO
   ·exact ab
   ·exact ac
   ·exact nH a8.out
   ·exact zD
   ·exact lh
  ·go_wp2_with fail;refine (lL B g 40  _ zD  tO tO).mono ?_;rintro _ D ⟨⟨M,rfl⟩,X,m⟩;have aj:Gr g w D:=gT lh m;have al:=X.lt;have T:=m.size;(try (simp at T))
   have a5:=m.size
   (try simp at a5)
   have u:hp D I=some (.cells #[x.ch.cap,x.ch.sent,x.ch.got,x.ch.fin,.slice V x.ch.cells R,.slice O x.ch.words c2] 31):=(bE m (by (try simp) <;> (try omega)) ai).trans tY
   have G:hp D w=some (.cells #[.int .i64 0,.int .i64 0,.int .i64 0,.int .i64 0,.slice none 0 0,.slice none 0 0] 31):=(bE m (by (try simp) <;> (try omega)) af).trans tY
   have p1:aD D (w+1) (.slice V x.ch.cells R) x.ch.cells:=L.kept m (.inr (own_ne N.out.1 tO))
   have p2:aG D (w+1) (.slice O x.ch.words c2) x.ch.words:=U.kept m (.inr (own_ne N.out.2.1 tO))
   clear A q K F J E H y L U
   have H:w<D.heap.size:=by omega
   have y:I<D.heap.size:=by omega
   have K:∀ o,D.cell? ⟨w,o,none⟩=_:=fun o=>cell_of_row D w o _ _ _ G
   have F:∀ o,D.cell? ⟨I,o,none⟩=_:=fun o=>cell_of_row D I o _ _ _ u
   have J:∀ o,D.frozen? ⟨w,o,none⟩=false:=dH G
   have E:∀ o,D.frozen? ⟨I,o,none⟩=false:=dH u
   have A:=G
   have q:=u
   have L:=p1
   have U:=p2
   clear G u p1 p2
   go_wp2
   refine bodyPost_ret (v:=.agg #[.int .i64 { x.ch with fin:=M }.cap,.int .i64 { x.ch with fin:=M }.sent,.int .i64 { x.ch with fin:=M }.got,.int .i64 { x.ch with fin:=M }.fin,.slice V { x.ch with fin:=M }.cells.length R,.slice O x.ch.words c2]) (by simp [results,results166,go_sem, *]) rfl ⟨⟨{ x.ch with fin:=M },V,R,.slice O x.ch.words c2,rfl,?_,?_,?_,?_,?_,?_,?_⟩,?_,?_⟩
   ·exact (aD.segz (lo:=w+1) (by (repeat (first|with_reducible exact L|with_reducible refine World.ownsRow.alloc ?_ _|with_reducible refine World.ownsRow.drew ?_|((with_reducible refine aI ?_ ?_ _);rotate_left;(focus (first|exact n1|exact m1))))))).1
   ·exact (aD.segz (lo:=w+1) (by (repeat (first|with_reducible exact L|with_reducible refine World.ownsRow.alloc ?_ _|with_reducible refine World.ownsRow.drew ?_|((with_reducible refine aI ?_ ?_ _);rotate_left;(focus (first|exact n1|exact m1))))))).2
   ·exact fun ad e=>Nat.le_of_succ_le (aD.low N.out.1 ad e)
   ·exact aH (lo:=w+1) (by (repeat (first|with_reducible exact U|with_reducible refine World.ownsRow.alloc ?_ _|with_reducible refine World.ownsRow.drew ?_|((with_reducible refine aI ?_ ?_ _);rotate_left;(focus (first|exact n2|exact m2)))))) tO
   ·exact ab
   ·exact ac
   ·exact nH a8.out
   ·exact zD
   ·exact lh
  ·obtain ⟨g1,rfl,c7,b9,aw,ay,az⟩:=aD.opens L (by rw [a7.out];omega)
   have ba:(6:Int)≤(x.ch.cells.length:Int):=by rw [a7.out];omega
   have d1:some g1≠some g:=by simp;omega
   have cb:some I.heap.size≠some g1:=fun e=>m1 (by simpa [Value.ownBlock] using e.symm)
   have ca:some w.heap.size≠some g1:=fun e=>n1 (by simpa [Value.ownBlock] using e.symm)
   have cq:g1<w3.heap.size:=b9
   have c8:I.heap.size≠g1:=by simpa using cb
   have d2:g1≠I.heap.size:=Ne.symm c8
   have c9:w.heap.size≠g1:=by simpa using ca
   have d3:g1≠w.heap.size:=Ne.symm c9
   have ao:=aA L
   have ap:=aA U
   clear ay az L U
   go_wp2_with fail
   go_region_held3 (fun w'=>w'.cell? ⟨I,4,none⟩=some (.slice (some ⟨g1,0,none⟩) x.ch.cells R))
    (first|(simp [*,go_sem]))
    (first|(go_at_call 66;refine (eG B g 6 _ zD tO tO).mono ?_;rintro _ D ⟨⟨M,rfl,b0,br⟩,ar,Y⟩;have b3:Gr g w D:=gT lh Y;have ax:Gr g w3 D:=gT lh Y;obtain ⟨z,rfl⟩:=Int.eq_ofNat_of_zero_le b0;have bx:=ar.lt;have T:=Y.size;(try (simp at T));have zz:=And.intro (bE Y (b:=I) tS (by assumption)) <| bE Y (b:=w) tS (by assumption);(first|simp [go_sem,q,A,H,y] at zz|simp [go_sem] at zz|skip);(try clear q F E y);(try clear A K J H);obtain ⟨q,A⟩:=zz;obtain ⟨F,E,y⟩:=bO q;obtain ⟨K,J,H⟩:=bO A;have bh:(z:Int)<(x.ch.cells.length:Int):=tO;have av:z<x.ch.cells.length:=tO)|(go_at_call 188;refine (vM B g _ zD).mono ?_;rintro _ w5 ⟨⟨ds,de,dt,rfl⟩,bt,ak⟩;have ck:Gr g w w5:=gT lh ak;have b4:Gr g w3 w5:=gT lh ak;have cr:=bt.lt;have be:=ak.size;(try (simp at be));have zz:=And.intro (bE ak (b:=I) tS (by assumption)) <| bE ak (b:=w) tS (by assumption);(first|simp [go_sem,q,A,H,y] at zz|simp [go_sem] at zz|skip);(try clear q F E y);(try clear A K J H);obtain ⟨q,A⟩:=zz;obtain ⟨F,E,y⟩:=bO q;obtain ⟨K,J,H⟩:=bO A;have q1:=ao.out.kept b4 (.inr (own_ne N.out.1 tO));have Q1:=aA q1;obtain ⟨_,_,eg,_,cy,ag,b8⟩:=aD.open1 q1 av;simp at eg;obtain ⟨rfl,rfl⟩:=eg;have bk:=ag 0 tO;have bl:=ag 1 tO;have bm:=ag 2 tO;simp only [C3.val,Nat.add_zero] at bk bl bm;clear ag q1))
   have an:=gI (g:=g1) (dD N.out.2.1 N.out.1 (by decide)) rfl
   obtain ⟨w6,ae⟩:∃ w6,w6=((w5.setCell ⟨g1,z*3,none⟩ (.int .i64 ds)).setCell ⟨g1,z*3+1,none⟩ (.int .i64 de)).setCell ⟨g1,z*3+2,none⟩ (.int .i64 dt):=⟨_,rfl⟩
   rw [← ae]
   have L:aD w6 (w+1) (.slice (some ⟨g1,0,none⟩) x.ch.cells R) (x.ch.cells.set z ⟨ds,de,dt⟩):=by rw [ae];exact aD.set Q1.out av ⟨ds,de,dt⟩
   have U:aG w6 (w+1) (.slice O x.ch.words c2) x.ch.words:=by rw [ae];exact aI (aI (aI (ap.out.kept b4 (.inr (own_ne N.out.2.1 tO))) an _) an _) an _
   have bu:DS w6 B g:=by rw [ae];exact zD
   have cl:Gr g w w6:=by rw [ae];exact lh
   have au:Gr g1 w5 w6:=by rw [ae];exact gS (gS (gS (gR _ _) (.inl rfl)) (.inl rfl)) (.inl rfl)
   have ct:=bu.lt
   clear ae bk bl bm b8
   have bf:=au.size;(try (simp at bf));have zz:=And.intro (bE au (b:=I) tS (by assumption)) <| bE au (b:=w) tS (by assumption);(first|simp [go_sem,q,A,H,y] at zz|simp [go_sem] at zz|skip);(try clear q F E y);(try clear A K J H);obtain ⟨q,A⟩:=zz;obtain ⟨F,E,y⟩:=bO q;obtain ⟨K,J,H⟩:=bO A
   clear au
   go_wp2
   refine bodyPost_ret (v:=.agg #[.int .i64 { x.ch with cells:=x.ch.cells.set z ⟨ds,de,dt⟩ }.cap,.int .i64 { x.ch with cells:=x.ch.cells.set z ⟨ds,de,dt⟩ }.sent,.int .i64 { x.ch with cells:=x.ch.cells.set z ⟨ds,de,dt⟩ }.got,.int .i64 { x.ch with cells:=x.ch.cells.set z ⟨ds,de,dt⟩ }.fin,.slice (some ⟨g1,0,none⟩) { x.ch with cells:=x.ch.cells.set z ⟨ds,de,dt⟩ }.cells.length R,.slice O x.ch.words c2]) (by simp [results,results166,go_sem, *]) rfl ⟨⟨{ x.ch with cells:=x.ch.cells.set z ⟨ds,de,dt⟩ },(some ⟨g1,0,none⟩),R,.slice O x.ch.words c2,rfl,?_,?_,?_,?_,?_,?_,?_⟩,?_,?_⟩
   ·exact (Np (lo:=w+1) (by (repeat (first|with_reducible exact L|with_reducible refine World.ownsRow.alloc ?_ _|with_reducible refine World.ownsRow.drew ?_|((with_reducible refine aI ?_ ?_ _);rotate_left;(focus (first|exact n1|exact m1)))))))
   ·exact fun e=>by cases e
   ·exact fun ad e=>by cases e;simp only;omega
   ·exact aH (lo:=w+1) (by (repeat (first|with_reducible exact U|with_reducible refine World.ownsRow.alloc ?_ _|with_reducible refine World.ownsRow.drew ?_|((with_reducible refine aI ?_ ?_ _);rotate_left;(focus (first|exact n2|exact m2)))))) tO
   ·simpa using ab
   ·exact ac
   ·exact nH a8.out
   ·exact zD
   ·exact lh
  ·obtain ⟨g1,rfl,c7,b9,aw,ay,az⟩:=aD.opens L (by rw [a7.out];omega)
   have ba:(1:Int)≤(x.ch.cells.length:Int):=by rw [a7.out];omega
   have cn:x.ch.cells.length≤R:=aw
   have co:¬ R=1:=by have:=a7.out;omega
   obtain ⟨kc,a6,ek⟩:∃ kc a6,x.ch.cells=kc :: a6:=by
    cases he:x.ch.cells with
    | nil=>have:=a7.out;rw [he] at this;simp at this
    | cons kc a6=>exact ⟨kc,a6,rfl⟩
   have EK:=aA ek
   have ao:=aA L
   have ap:=aA U
   clear ay az ek
   go_wp2
   have el:x.ch.cells.length - 1=a6.length:=by rw [EK.out];simp
   rw [el]
   refine bodyPost_ret (v:=.agg #[.int .i64 { x.ch with cells:=a6 }.cap,.int .i64 { x.ch with cells:=a6 }.sent,.int .i64 { x.ch with cells:=a6 }.got,.int .i64 { x.ch with cells:=a6 }.fin,.slice (some ⟨g1,3,none⟩) { x.ch with cells:=a6 }.cells.length (R - 1),.slice O x.ch.words c2]) (by simp [results,results166,go_sem, *]) rfl ⟨⟨{ x.ch with cells:=a6 },(some ⟨g1,3,none⟩),(R - 1),.slice O x.ch.words c2,rfl,?_,?_,?_,?_,?_,?_,?_⟩,?_,?_⟩
   ·refine Seg.tail (c:=kc) (a:=⟨g1,0,none⟩) ?_ rfl rfl
    rw [← EK.out]
    exact (aD.segz (lo:=w+1) (by (repeat (first|with_reducible exact L|with_reducible refine World.ownsRow.alloc ?_ _|with_reducible refine World.ownsRow.drew ?_|((with_reducible refine aI ?_ ?_ _);rotate_left;(focus (first|exact n1|exact m1))))))).1
   ·exact fun e=>by cases e
   ·exact fun ad e=>by cases e;simp only;omega
   ·exact aH (lo:=w+1) (by (repeat (first|with_reducible exact U|with_reducible refine World.ownsRow.alloc ?_ _|with_reducible refine World.ownsRow.drew ?_|((with_reducible refine aI ?_ ?_ _);rotate_left;(focus (first|exact n2|exact m2)))))) tO
   ·have:=a7.out;rw [EK.out] at this;simp at this;simp only;omega
   ·exact ac
   ·exact fun ad e=>by cases e;exact nH a8.out ⟨g1,0,none⟩ rfl
   ·exact zD
   ·exact lh
  ·have ao:=aA L
   have ap:=aA U
   clear L U
   obtain ⟨i0,bw,c6,bh,av⟩:=info_parts kL
   have cz:some w.heap.size≠(Value.slice O x.ch.words c2).ownBlock:=Ne.symm n2
   have d0:some I.heap.size≠(Value.slice O x.ch.words c2).ownBlock:=Ne.symm m2
   have bo:=dD N.out.1 N.out.2.1 (by decide)
   have bn:=fun k (hk:(Value.slice O x.ch.words c2).ownBlock=some k)=>(N.out.2.1.lt k hk).1
   go_wp2_with fail
   go_region_law (first|(go_simp;go_at_call 116;refine (kP B g (-1) 3 _ zD tO tO tO tO).mono ?_;rintro _ D ⟨⟨M,rfl,b0,br⟩,ar,Y⟩;have b3:Gr g w D:=gT lh Y;have ax:Gr g w3 D:=gT lh Y;have bx:=ar.lt;have T:=Y.size;(try (simp at T));have zz:=And.intro (bE Y (b:=I) tS (by assumption)) <| bE Y (b:=w) tS (by assumption);(first|simp [go_sem,q,A,H,y] at zz|simp [go_sem] at zz|skip);(try clear q F E y);(try clear A K J H);obtain ⟨q,A⟩:=zz;obtain ⟨F,E,y⟩:=bO q;obtain ⟨K,J,H⟩:=bO A;have q2:=ap.out.kept ax (.inr (own_ne N.out.2.1 tO));have q1:=ao.out.kept ax (.inr (own_ne N.out.1 tO)))|(refine step_append_lies _ (by rfl) _ _ _ (by rfl) (w+1) 2 i0 _ 1 8 underlying29 bw c6 bh av rfl tO (.slice O x.ch.words c2) _ _ (by rfl) (World.ownsRow.drew (World.ownsRow.alloc q2 _)) ⟨D,0,none⟩ 1 1 [.int .i64 M] (by rfl) (by rfl) (World.news_of_block (cs:=#[.int .i64 M]) (t:=2) (fr:=(0,0)) (heap_alloc_new D _)) (by simp [Value.oneCell']) tO (by unfold maxLen;omega) tO (by simp;omega) (D+1) (by simp) ?_;intro g8 q8 w8 o8 aa aq cf;have bg:=aa.size;(try (simp at bg));have zz:=And.intro (bE aa (b:=I) tS (by assumption)) <| bE aa (b:=w) tS (by assumption);(first|simp [go_sem,q,A,H,y] at zz|simp [go_sem] at zz|skip);(try clear q F E y);(try clear A K J H);obtain ⟨q,A⟩:=zz;obtain ⟨F,E,y⟩:=bO q;obtain ⟨K,J,H⟩:=bO A;have bv:=DS.grown (DS.alloc ar) aa (fun k hk=>by have:=bn k hk;omega);have cm:=Gr.grown (gA b3) aa (fun k hk=>by have:=bn k hk;omega);have L:=(World.ownsRow.alloc q1 _).kept aa bo;have U:aG w8 (w+1) (.slice (some ⟨g8,0,none⟩) (x.ch.words.length+1) q8) (x.ch.words ++ [M]):=aG.snoc o8;have cu:=bv.lt;have e8:∀ j,j<D.heap.size+1→(Value.slice O x.ch.words c2).ownBlock≠some j→(Value.slice (some ⟨g8,0,none⟩) (x.ch.words.length+1) q8).ownBlock≠some j:=(fun j hj hn e=>by simp [Value.ownBlock] at e;rcases aq with aq|aq;exact hn (by rw [aq,e]);omega);clear o8 aa))
   all_goals go_wp2
   all_goals (have n8:=e8 w tO n2;have m8:=e8 I tO m2)
   all_goals refine bodyPost_ret (v:=.agg #[.int .i64 { x.ch with words:=x.ch.words ++ [M] }.cap,.int .i64 { x.ch with words:=x.ch.words ++ [M] }.sent,.int .i64 { x.ch with words:=x.ch.words ++ [M] }.got,.int .i64 { x.ch with words:=x.ch.words ++ [M] }.fin,.slice V { x.ch with words:=x.ch.words ++ [M] }.cells.length R,.slice (some ⟨g8,0,none⟩) (x.ch.words.length+1) q8]) (by simp [results,results166,go_sem, *]) rfl ⟨⟨{ x.ch with words:=x.ch.words ++ [M] },V,R,.slice (some ⟨g8,0,none⟩) (x.ch.words.length+1) q8,rfl,?_,?_,?_,?_,?_,?_,?_⟩,?_,?_⟩
   all_goals first|exact fun ad e=>Nat.le_of_succ_le (aD.low N.out.1 ad e)|skip
   all_goals first|exact ab|(simp only [List.length_append,List.length_singleton];omega)|skip
   all_goals first|exact fun ad e=>e8 ad.block (by have:=b1 ad.block (by rw [e];rfl);omega) (nH a8.out ad e)|skip
   all_goals first|(exact (aD.segz (lo:=w+1) (by (repeat (first|with_reducible exact L|with_reducible refine World.ownsRow.alloc ?_ _|with_reducible refine World.ownsRow.drew ?_|((with_reducible refine aI ?_ ?_ _);rotate_left;(focus (first|exact n1|exact m1))))))).1)|skip
   all_goals first|(exact (aD.segz (lo:=w+1) (by (repeat (first|with_reducible exact L|with_reducible refine World.ownsRow.alloc ?_ _|with_reducible refine World.ownsRow.drew ?_|((with_reducible refine aI ?_ ?_ _);rotate_left;(focus (first|exact n1|exact m1))))))).2)|skip
   all_goals first|(exact zD;done)|skip
   all_goals first|(exact lh;done)|skip
   all_goals (refine aH (lo:=w+1) ?_ tO;(repeat (first|with_reducible exact U|with_reducible refine World.ownsRow.alloc ?_ _|with_reducible refine World.ownsRow.drew ?_|((with_reducible refine aI ?_ ?_ _);rotate_left;(focus (first|exact n8|exact m8))))))
theorem yG (B g:Nat) (w:World) (m:DS w B g):Calls prog 166 #[.pointer (some ⟨g,0,none⟩)] w fun r w'=>QA w' w r∧DS w' B g∧Gr g w w' :=
 (yF B g w m).mono fun _ _ ⟨⟨c,a,p,D,e,h1,q,u,y,z,h6,_⟩,m,A⟩=>⟨⟨c,a,p,D,e,h1,q,u,y,z,h6⟩,m,A⟩
end
section
open Go.RowKit
attribute [local simp] aP
def Hi (lo:Nat) (a:Option Addr):Prop:=∀ ad,a=some ad→lo≤ad.block
def xx (w':World) (lo:Nat) (r:Ending):Prop:=∃ (x:Wo) (a b d e:Option Addr) (p1 p2 p3 p4:Nat),r=.returned (.agg #[x.ch.cap,x.ch.sent,x.ch.got,x.ch.fin,.slice a x.ch.cells p1,.slice b x.ch.words p2,.slice d x.hands p3,.slice e x.deals p4,x.now])∧ic w' w' x a b d e∧jl x a b d e p1 p2 p3 p4∧jk x∧x.hands.length≤6∧Hi lo a∧Hi lo b∧Hi lo d∧Hi lo e
theorem Seg.grown {w w':World} {row:Option Nat} {B n k:Nat} {a:Option Addr} {f:Nat→Nat→Value} (h:Seg w w a n k f) (r:w.grownBy w' row) (A:∀ m,a=some m→row≠some m.block):Seg w' w' a n k f:=by
 rcases h with h|⟨b,o,rfl,q,u⟩
 ·exact .inl h
 ·exact .inr ⟨b,o,rfl,Nat.lt_of_lt_of_le q r.size,fun i j y z=>(World.cell?_of_block (r.block b q (fun e=>A _ rfl e.symm))).trans (u i j y z)⟩
theorem xy {w:World} {lo:Nat} {t:TypeId} {k n p:Nat} {a:Option Addr} {q:List Value} (h:w.ownsRow lo t k (.slice a n p) n q):Hi lo a:=fun m e=>(h.lt m.block (by subst e;rfl)).1
theorem Px {w:World} {lo:Nat} {t:TypeId} {k n p:Nat} {a:Option Addr} {q:List Value} (h:w.ownsRow lo t k (.slice a n p) n q):n≤p:=by
 rcases h.2 with ⟨_,r⟩|⟨g,cap,m,e,_,_,u,_⟩
 ·omega
 ·simp at e;omega
theorem nM {w W u:World} {B g:Nat} {x:Wo} {a b d e:Option Addr} {z A p3 D:Nat} (I:DS W B g) (H:Gr g w W) (q:W.grownBy u (some w.heap.size)) (J:g<w.heap.size) (S:ic W W x a b d e) (N:jl x a b d e z A p3 D) (L:jk x) (h6:x.hands.length≤6) (E:Hi (w+1) a) (F:Hi (w+1) b) (r:Hi (w+1) d) (G:Hi (w+1) e) :
  xx u w (.returned (.agg #[x.ch.cap,x.ch.sent,x.ch.got,x.ch.fin,.slice a x.ch.cells z,.slice b x.ch.words A,.slice d x.hands p3,.slice e x.deals D,x.now]))∧DS u B g∧Gr g w u:=by
 have ne:∀ {a:Option Addr},Hi (w+1) a→∀ m,a=some m→some w.heap.size≠some m.block:=fun h m e k=>by have:=h m e;simp at k;omega
 have lo:∀ {a:Option Addr},Hi (w+1) a→Hi w a:=fun h m e=>by have:=h m e;omega
 exact ⟨⟨x,a,b,d,e,z,A,p3,D,rfl,⟨Seg.grown (B:=0) S.1 q (ne E),Seg.grown (B:=0) S.2.1 q (ne F),Seg.grown (B:=0) S.2.2.1 q (ne r),Seg.grown (B:=0) S.2.2.2 q (ne G)⟩,N,L,h6,lo E,lo F,lo r,lo G⟩,
  I.grown q (fun k y=>by simp at y;omega),H.grown q (fun k y=>by simp at y;omega)⟩
theorem iG {w:World} {lo:Nat} {x:Wo} {a b d e:Option Addr} {m q p3 r:Nat} (h:dO w lo (.slice a x.ch.cells m) (.slice b x.ch.words q) (.slice d x.hands p3) (.slice e x.deals r) x):ic w w x a b d e∧jl x a b d e m q p3 r∧Hi lo a∧Hi lo b∧Hi lo d∧Hi lo e:=by
 obtain ⟨u,D,y,E,z,F,A,G⟩:=h.segs
 exact ⟨⟨u,y,z,A⟩,⟨D,E,F,G⟩,xy h.1,xy h.2.1,xy h.2.2.1,xy h.2.2.2⟩
theorem Seg.tailH {w:World} {B g:Nat} {hs:List Ha} (h:pF w B (some ⟨g,0,none⟩) hs):pF w B (some ⟨g,14,none⟩) hs.tail:=by
 cases hs with
 | nil=>exact .inl rfl
 | cons y t =>
  rcases h with h|⟨b,o,e,m,q⟩
  ·simp at h
  ·simp at e
   obtain ⟨rfl,rfl⟩:=e
   refine .inr ⟨g,14,rfl,m,fun i j r u=>?_⟩
   have:=q (i+1) j (by simpa using r) u
   simp [dY] at this ⊢
   rw [← this]
   congr 2
   omega
theorem GQ {w:World} {k:Nat} {q:Array Value} {T:TypeId} (h:hp w k=some (.cells q T)):∀ m,some (⟨k,0,none⟩:Addr)=some m→∀ j u,q.toList[j]?=some u→w.cell? (m.add j)=some u:=by
 intro m e j u y
 simp at e
 subst e
 have r:(⟨k,0,none⟩:Addr).add j=⟨k,j,none⟩:=by
  simp [Addr.add];intro e;exact e.symm
 rw [r,(bO h).1 j]
 simpa using y
theorem Kr (a b c d e f g:Int):∀ u ∈ (#[Value.int .i64 a,.int .i64 b,.int .i64 c,.int .i64 d,.int .i64 e,.int .i64 f,.int .i64 g]:Array Value).toList,u.oneCell'=true:=by
 intro u m
 simp at m
 rcases m with rfl|rfl|rfl|rfl|rfl|rfl|rfl <;> rfl
theorem Kt (h:Ha) (t:List Ha) (z:Int):jF ((h :: t).set 0 { h with pos:=z })=(jF (h :: t)).set 0 (.int .i64 z):=by
 simp [jF,aB]
theorem cO.pos {w:World} {lo g cap:Nat} {hs:List Ha} (h:cO w lo (.slice (some ⟨g,0,none⟩) hs.length cap) hs) (m:0<hs.length) (z:Int):cO (w.setCell ⟨g,0,none⟩ (.int .i64 z)) lo (.slice (some ⟨g,0,none⟩) (hs.set 0 { hs.getD 0 Ha.zero with pos:=z }).length cap) (hs.set 0 { hs.getD 0 Ha.zero with pos:=z }):=by
 cases hs with
 | nil=>simp at m
 | cons k t =>
  have:=jH h 0 (by rw [jA];simp) (.int .i64 z)
  unfold cO
  simp only [List.length_set]
  rw [show (k :: t).set 0 { (k :: t).getD 0 Ha.zero with pos:=z }=(k :: t).set 0 { k with pos:=z } from rfl,Kt]
  exact this
theorem xz (B g:Nat) (w:World) (V:DS w B g):Calls prog 114 #[.pointer (some ⟨g,0,none⟩)] w fun r w'=>xx w' w r∧DS w' B g∧Gr g w w':=by
 have hl:=V.lt
 have cl:=V.le
 have a4:g<w.heap.size:=hl
 have a5:some w.heap.size≠some g:=by simp;omega
 go_enter func114,ntmps114
 go_wp2_with fail;refine (uR B g  _ zD ).mono ?_;rintro _ D ⟨⟨x,v1,v2,v3,v4,rfl,a2,hx,cn,_⟩,av,ae⟩;have b7:Gr g w D:=gT lh ae;have cf:=av.lt;have ap:=ae.size;(try (simp at ap))
 have ap:=ae.size;(try (simp at ap));have zz:=bE ae (b:=w) tS (by assumption);(try simp [go_sem] at zz);(try clear G T R O);have G:=zz;clear zz;obtain ⟨T,R,O⟩:=bO G
 replace a2:dO D (w+1) v1 v2 v3 v4 x:=by simpa using a2
 obtain ⟨a,b,d,e,p1,p2,p3,p4,rfl,rfl,rfl,rfl,_⟩:=a2.opens
 have F:jk x:=⟨by have:=(lQ hx.ch).1;omega,by omega,by have:=hx.h6;omega,by have:=hx.d;omega⟩
 have ck:=hx.h1
 have h6:=hx.h6
 have ci:=hx.d
 have ac:some D.heap.size≠some g:=by simp;omega
 have bx:w<D.heap.size:=by omega
 clear G R T
 have ay:hp D w=some (.cells #[.int .i64 0,.int .i64 0,.int .i64 0,.int .i64 0,.slice none 0 0,.slice none 0 0,.slice none 0 0,.slice none 0 0,.int .i64 0] 35):=(bE ae (by simp) a5).trans (by simp [go_sem])
 go_wp2_with fail
 generalize ah:World.alloc D _=wb
 have G:hp wb w=some (.cells #[.int .i64 0,.int .i64 0,.int .i64 0,.int .i64 0,.slice none 0 0,.slice none 0 0,.slice none 0 0,.slice none 0 0,.int .i64 0] 35):=by rw [← ah];simp [go_sem,ay,bx]
 have E:hp wb D=some (.cells #[x.ch.cap,x.ch.sent,x.ch.got,x.ch.fin,.slice a x.ch.cells p1,.slice b x.ch.words p2,.slice d x.hands p3,.slice e x.deals p4,x.now] 35):=by rw [← ah];exact heap_alloc_new _ _
 have I:dO wb (w+1) (.slice a x.ch.cells p1) (.slice b x.ch.words p2) (.slice d x.hands p3) (.slice e x.deals p4) x:=by rw [← ah];exact ⟨World.ownsRow.alloc a2.1 _,World.ownsRow.alloc a2.2.1 _,World.ownsRow.alloc a2.2.2.1 _,World.ownsRow.alloc a2.2.2.2 _⟩
 have bb:DS wb B g:=by rw [← ah];exact DS.alloc av
 have b8:Gr g w wb:=by rw [← ah];exact gA b7
 clear ah ay a2 O
 obtain ⟨T,R,O⟩:=bO G
 obtain ⟨a1,a3,a0⟩:=bO E
 refine (iL B g 8 _ bb tO tO).mono ?_
 rintro _ w2 ⟨⟨y2,rfl⟩,aw,af⟩
 have au:Gr g w w2:=gT b8 af
 replace G:=(bE af (bO G).2.2 a5).trans G
 replace E:=(bE af (bO E).2.2 ac).trans E
 replace I:=I.gr af tO
 clear T R O a1 a3 a0
 obtain ⟨T,R,O⟩:=bO G
 obtain ⟨a1,a3,a0⟩:=bO E
 cases y2 with
 | false =>
  obtain ⟨S,N,i1,i2,i3,i4⟩:=iG I
  go_wp2
  refine bodyPost_ret (v:=.agg #[x.ch.cap,x.ch.sent,x.ch.got,x.ch.fin,.slice a x.ch.cells p1,.slice b x.ch.words p2,.slice d x.hands p3,.slice e x.deals p4,x.now]) (by simp [results,results114,go_sem, *]) rfl ?_
  generalize Y:World.setCell _ _ _=W'
  refine nM (x:=x) (W:=w2) aw au (by rw [← Y];exact zG) a4 S N F h6 i1 i2 i3 i4
 | true =>
  go_wp2_with fail
  refine (eG B g 5 _ aw tO tO).mono ?_
  rintro _ w3 ⟨⟨n,rfl,bv,bw⟩,a9,ag⟩
  have a7:Gr g w w3:=gT au ag
  replace G:=(bE ag (bO G).2.2 a5).trans G
  replace E:=(bE ag (bO E).2.2 ac).trans E
  replace I:=I.gr ag tO
  clear T R O a1 a3 a0
  obtain ⟨T,R,O⟩:=bO G
  obtain ⟨a1,a3,a0⟩:=bO E
  have hn:n=0∨n=1∨n=2∨n=3∨n=4:=by omega
  clear bv bw
  rcases hn with rfl|rfl|rfl|rfl|rfl
  ·go_wp2_with fail
   refine (lL B g 20000 _ a9 tO tO).mono ?_
   rintro _ w4 ⟨⟨z,rfl⟩,am,X⟩
   have ak:Gr g w w4:=gT a7 X
   replace G:=(bE X (bO G).2.2 a5).trans G
   replace E:=(bE X (bO E).2.2 ac).trans E
   replace I:=I.gr X tO
   clear T R O a1 a3 a0
   obtain ⟨T,R,O⟩:=bO G
   obtain ⟨a1,a3,a0⟩:=bO E
   have gb:w4.grownBy (w4.setCell ⟨D,8,none⟩ (.int .i64 z)) (some D.heap.size):=gS (gR _ _) (.inl rfl)
   have bj:dO (w4.setCell ⟨D,8,none⟩ (.int .i64 z)) (w+1) (.slice a x.ch.cells p1) (.slice b x.ch.words p2) (.slice d x.hands p3) (.slice e x.deals p4) x:=⟨I.1.kept gb (.inr fun J=>bH I.1 E (by decide) _ J rfl),I.2.1.kept gb (.inr fun J=>bH I.2.1 E (by decide) _ J rfl),I.2.2.1.kept gb (.inr fun J=>bH I.2.2.1 E (by decide) _ J rfl),I.2.2.2.kept gb (.inr fun J=>bH I.2.2.2 E (by decide) _ J rfl)⟩
   have bt:DS (w4.setCell ⟨D,8,none⟩ (.int .i64 z)) B g:=am.grown gb (fun k Z=>by simp at Z;omega)
   have bq:Gr g w (w4.setCell ⟨D,8,none⟩ (.int .i64 z)):=ak.grown gb (fun k Z=>by simp at Z;omega)
   obtain ⟨S,N,i1,i2,i3,i4⟩:=iG bj
   go_wp2
   refine bodyPost_ret (v:=.agg #[x.ch.cap,x.ch.sent,x.ch.got,x.ch.fin,.slice a x.ch.cells p1,.slice b x.ch.words p2,.slice d x.hands p3,.slice e x.deals p4,.int .i64 z]) (by simp [results,results114,go_sem, *]) rfl ?_
   generalize Y:World.setCell _ _ _=W'
   refine nM (x:={ x with now:=z }) (W:=w4.setCell ⟨D,8,none⟩ (.int .i64 z)) bt bq (by rw [← Y];exact zG) a4 S N F h6 i1 i2 i3 i4
  ·obtain ⟨S,N,i1,i2,i3,i4⟩:=iG I
   obtain ⟨L,b4,ev,b2,c7,an,ao⟩:=cO.open1 I.2.2.1 (i:=0) tO
   simp at ev
   obtain ⟨rfl,rfl⟩:=ev
   have ax:(1:Int)≤(x.hands.length:Int):=by omega
   have br:x.hands.length≤p3:=Px I.2.2.1
   clear an ao
   have az:x.hands.tail.length=x.hands.length - 1:=by simp
   have gb:∀ u,w3.grownBy (w3.setCell ⟨D,6,none⟩ u) (some D.heap.size):=fun u=>gS (gR _ _) (.inl rfl)
   have nb:∀ {a:Option Addr} {t:TypeId} {k n p:Nat} {xs:List Value},w3.ownsRow (w+1) t k (.slice a n p) n xs→t≠35→∀ ad,a=some ad→some D.heap.size≠some ad.block:=fun h ht ad ea k=>bH h E ht ad.block (by subst ea;rfl) (by simpa using k.symm)
   by_cases ba:p3=1
   ·have e1:x.hands.length=1:=by omega
    subst ba
    have e0:x.hands.tail.length=0:=by rw [az,e1]
    have cg:=S
    rw [e1] at E a1 ax
    clear az
    have S6:ic (w3.setCell ⟨D,6,none⟩ (.slice (some ⟨L,0,none⟩) 0 0)) (w3.setCell ⟨D,6,none⟩ (.slice (some ⟨L,0,none⟩) 0 0)).heap.size { x with hands:=x.hands.tail } a b (some ⟨L,0,none⟩) e:=⟨Seg.grown (B:=0) S.1 (gb _) (nb I.1 (by decide)),Seg.grown (B:=0) S.2.1 (gb _) (nb I.2.1 (by decide)),.inl e0,Seg.grown (B:=0) S.2.2.2 (gb _) (nb I.2.2.2 (by decide))⟩
    have L6:jk { x with hands:=x.hands.tail }:=⟨F.1,F.2.1,by have:=F.2.2.1;show x.hands.tail.length≤_;omega,F.2.2.2⟩
    have N6:jl { x with hands:=x.hands.tail } a b (some ⟨L,0,none⟩) e p1 p2 0 p4:=⟨N.1,N.2.1,nofun,N.2.2.2⟩
    have b3:Hi (w+1) (some ⟨L,0,none⟩):=fun ad J=>by cases J;exact b2
    have al:DS (w3.setCell ⟨D,6,none⟩ (.slice (some ⟨L,0,none⟩) 0 0)) B g:=a9.grown (gb _) (fun k Z=>by simp at Z;omega)
    have aj:Gr g w (w3.setCell ⟨D,6,none⟩ (.slice (some ⟨L,0,none⟩) 0 0)):=a7.grown (gb _) (fun k Z=>by simp at Z;omega)
    go_wp2
    refine bodyPost_ret (v:=.agg #[x.ch.cap,x.ch.sent,x.ch.got,x.ch.fin,.slice a x.ch.cells p1,.slice b x.ch.words p2,.slice (some ⟨L,0,none⟩) x.hands.tail.length 0,.slice e x.deals p4,x.now]) (by simp [results,results114,go_sem, *]) rfl ?_
    generalize Y:World.setCell _ _ _=W'
    refine nM (x:={ x with hands:=x.hands.tail }) (W:=w3.setCell ⟨D,6,none⟩ (.slice (some ⟨L,0,none⟩) 0 0)) al aj (by rw [← Y];exact zG) a4 S6 N6 L6 (by show x.hands.tail.length≤6;simp;omega) i1 i2 b3 i4
   ·have bh:=aA az
    have S6:ic (w3.setCell ⟨D,6,none⟩ (.slice (some ⟨L,14,none⟩) x.hands.tail.length (p3 - 1))) (w3.setCell ⟨D,6,none⟩ (.slice (some ⟨L,14,none⟩) x.hands.tail.length (p3 - 1))).heap.size { x with hands:=x.hands.tail } a b (some ⟨L,14,none⟩) e:=⟨Seg.grown (B:=0) S.1 (gb _) (nb I.1 (by decide)),Seg.grown (B:=0) S.2.1 (gb _) (nb I.2.1 (by decide)),Seg.grown (B:=0) (Seg.tailH S.2.2.1) (gb _) (fun ad J=>by cases J;exact nb I.2.2.1 (by decide) ⟨L,0,none⟩ rfl),Seg.grown (B:=0) S.2.2.2 (gb _) (nb I.2.2.2 (by decide))⟩
    have L6:jk { x with hands:=x.hands.tail }:=⟨F.1,F.2.1,by have:=F.2.2.1;show x.hands.tail.length≤_;omega,F.2.2.2⟩
    have N6:jl { x with hands:=x.hands.tail } a b (some ⟨L,14,none⟩) e p1 p2 (p3 - 1) p4:=⟨N.1,N.2.1,nofun,N.2.2.2⟩
    have b3:Hi (w+1) (some ⟨L,14,none⟩):=fun ad J=>by cases J;exact b2
    have al:DS (w3.setCell ⟨D,6,none⟩ (.slice (some ⟨L,14,none⟩) x.hands.tail.length (p3 - 1))) B g:=a9.grown (gb _) (fun k Z=>by simp at Z;omega)
    have aj:Gr g w (w3.setCell ⟨D,6,none⟩ (.slice (some ⟨L,14,none⟩) x.hands.tail.length (p3 - 1))):=a7.grown (gb _) (fun k Z=>by simp at Z;omega)
    have bk:=aA S6
    have bi:=aA L6
    clear S6 L6
    go_wp2
    rw [show x.hands.length - 1=x.hands.tail.length from bh.out.symm]
    have S6:=bk.out
    have L6:=bi.out
    refine bodyPost_ret (v:=.agg #[x.ch.cap,x.ch.sent,x.ch.got,x.ch.fin,.slice a x.ch.cells p1,.slice b x.ch.words p2,.slice (some ⟨L,14,none⟩) x.hands.tail.length (p3 - 1),.slice e x.deals p4,x.now]) (by simp [results,results114,go_sem, *]) rfl ?_
    generalize Y:World.setCell _ _ _=W'
    refine nM (x:={ x with hands:=x.hands.tail }) (W:=w3.setCell ⟨D,6,none⟩ (.slice (some ⟨L,14,none⟩) x.hands.tail.length (p3 - 1))) al aj (by rw [← Y];exact zG) a4 S6 N6 L6 (by show x.hands.tail.length≤6;simp;omega) i1 i2 b3 i4
  ·obtain ⟨i6,bu,bz,bg,b9⟩:=info_parts nV
   go_wp2_with fail
   refine iT [[],[0],[],[2],[],[4],[],[6],[],[8],[6,7,8,9],[],[11],[2,3,4,5,6,7,8,9,10,11,12],[2,3,4,5,6,7,8,9,10,11,12,13],qB [8,9,10,11,12,13,14],[],qC [16]] [25,26,27,28,29,30,31,32,33,34,35,36,37,38,39,40,41] (fun l s H=>(DS H B g)∧(Gr g w H)∧(w3≤H.heap.size)∧(hp H w=some (.cells #[.int .i64 0,.int .i64 0,.int .i64 0,.int .i64 0,.slice none 0 0,.slice none 0 0,.slice none 0 0,.slice none 0 0,.int .i64 0] 35))∧(hp H D=some (.cells #[x.ch.cap,x.ch.sent,x.ch.got,x.ch.fin,.slice a x.ch.cells p1,.slice b x.ch.words p2,.slice d x.hands p3,cond (l 17) (s 1040) (.slice e x.deals p4),x.now] 35))∧(aD H (w+1) (.slice a x.ch.cells p1) x.ch.cells)∧(aG H (w+1) (.slice b x.ch.words p2) x.ch.words)∧(cO H (w+1) (.slice d x.hands p3) x.hands)∧(l 15=false→dV H (w+1) (.slice e x.deals p4) x.deals)∧(l 0=true→s 25=.pointer (some ⟨D,7,none⟩))∧(l 1=true→s 26=.slice e x.deals p4)∧(l 2=true→s 27=.pointer (some ⟨g,0,none⟩))∧(l 3=true→∃ z:Int,s 28=.int .i64 z)∧(l 4=true→s 29=.pointer (some ⟨g,0,none⟩))∧(l 5=true→∃ k e0:Int,s 30=.agg #[.int .i64 k,.int .i64 e0])∧(l 6=true→s 31=.pointer (some ⟨D,8,none⟩))∧(l 7=true→s 32=.int .i64 x.now)∧(l 8=true→s 33=.pointer (some ⟨g,0,none⟩))∧(l 9=true→∃ z:Int,s 34=.int .i64 z)∧(l 10=true→∃ z:Int,s 35=.int .i64 z)∧(l 11=true→s 36=.pointer (some ⟨g,0,none⟩))∧(l 12=true→∃ z:Int,s 37=.int .i64 z)∧(l 13=true→∃ t k e0 f p:Int,s 38=.agg #[.int .i64 (t),.int .i64 (k),.int .i64 (e0),.int .i64 0,.int .i64 (f),.int .i64 (p),.int .i64 0])∧(l 14=true→l 15=false→∃ (q:Nat) (t k e0 f p:Int),s 39=.slice (some ⟨q,0,none⟩) 1 1∧hp H q=some (.cells #[.int .i64 (t),.int .i64 (k),.int .i64 (e0),.int .i64 0,.int .i64 (f),.int .i64 (p),.int .i64 0] 44))∧(l 15=true→∃ de:De,s 40=s 1040∧dV H (w+1) (s 1040) (x.deals ++ [de]))∧(l 16=true→s 41=.pointer (some ⟨D,7,none⟩))) (fun s=>⟨a9.drew,gD a7,Nat.le_refl _,G,E,I.1.drew,I.2.1.drew,I.2.2.1.drew,fun _=>I.2.2.2.drew,nB,nB,nB,nB,nB,nB,nB,nB,nB,nB,nB,nB,nB,nB,nB,nB,nB⟩) ?_ ?_
   refine ⟨?_,?_,?_,?_,?_,?_,?_,?_,?_,?_,?_,?_,?_,?_,?_,?_,?_,?_,trivial⟩;iterate 18 (intro l s H hl V hn m K hK;rotate_left)
   ·intro l s wf a8 m
    have b1:=m.1
    have b0:=m.2.1
    have aq:=m.2.2.2.1
    have aa:=m.2.2.2.2.1
    have m1:=(jC m).2.1
    have m2:=(jC m).2.2.1
    have m3:=(jC m).2.2.2.1
    obtain ⟨de,_,m4⟩:=((jD (jE m)).1 (a8 15 rfl))
    rw [a8 17 rfl] at aa
    dsimp only [cond] at aa
    obtain ⟨na,nc,en,_⟩:=dV.seg m4
    rw [en] at m4 aa
    clear m a8 T R O a1 a3 a0 G E en
    obtain ⟨T,R,O⟩:=bO aq
    obtain ⟨a1,a3,a0⟩:=bO aa
    obtain ⟨S,N,i1,i2,i3,i4⟩:=iG (x:={ x with deals:=x.deals ++ [de] }) ⟨m1,m2,m3,m4⟩
    have L6:jk { x with deals:=x.deals ++ [de] }:=⟨F.1,F.2.1,F.2.2.1,by simp;omega⟩
    go_wp2
    refine bodyPost_ret (v:=.agg #[x.ch.cap,x.ch.sent,x.ch.got,x.ch.fin,.slice a x.ch.cells p1,.slice b x.ch.words p2,.slice d x.hands p3,.slice na (x.deals ++ [de]).length nc,x.now]) (by simp [results,results114,go_sem, *]) rfl ?_
    generalize Y:World.setCell _ _ _=W'
    refine nM (x:={ x with deals:=x.deals ++ [de] }) (W:=wf) b1 b0 (by rw [← Y];exact zG) a4 S N L6 h6 i1 i2 i3 i4
   ·go_simp
    refine hK.out (upd s 25 (.pointer (some ⟨D,7,none⟩))) _ _ (by simp [aC] <;> rfl) (kD (kA (kX (fun _=>rfl) id)) m.out)
   ·have e0:=((jD m.out).2.1 (V 0 rfl))
    have zz:=m.out.2.2.2.2.1
    rw [show l 17=false from hn 17 rfl] at zz
    have q:H.cell? ⟨D,7,none⟩=some (.slice e x.deals p4):=(bO zz).1 7
    go_simp
    refine hK.out (upd s 26 (.slice e x.deals p4)) _ _ (by simp [aC,e0] <;> rfl) (kD (kB (kX (fun _=>rfl) id)) m.out)
   ·go_simp
    refine hK.out (upd s 27 (.pointer (some ⟨g,0,none⟩))) _ _ (by simp [aC] <;> rfl) (kD (kB (kA (kX (fun _=>rfl) id))) m.out)
   ·have e2:=((jD m.out).2.2.2.1 (V 2 rfl))
    go_simp
    go_at_call 116
    refine (kP B g (-1) 3 _ m.out.1 tO tO tO tO).mono ?_
    rintro _ wy ⟨⟨z,rfl,_,_⟩,ab,A⟩
    refine hK.out (upd s 28 (.int .i64 z)) _ _ (by simp [aC,e2] <;> rfl) (kX (ab) (kX (gT m.out.2.1 A) (kX (Nat.le_trans m.out.2.2.1 (World.grownBy.size A)) (kX ((bE A (bO m.out.2.2.2.1).2.2 a5).trans m.out.2.2.2.1) (kX ((bE A (bO m.out.2.2.2.2.1).2.2 ac).trans m.out.2.2.2.2.1) (kX (World.ownsRow.kept (jC m.out).2.1 A (.inr (own_ne (jC m.out).2.1 tO))) (kX (World.ownsRow.kept (jC m.out).2.2.1 A (.inr (own_ne (jC m.out).2.2.1 tO))) (kX (World.ownsRow.kept (jC m.out).2.2.2.1 A (.inr (own_ne (jC m.out).2.2.2.1 tO))) (kX (fun U=>World.ownsRow.kept ((jD m.out).1 U) A (.inr (own_ne ((jD m.out).1 U) tO))) (kB (kA (kX (fun _=>⟨_,rfl⟩) (kD (kA (kX (nU (hn 13 rfl)) (kX (nU (hn 14 rfl)) (kX (nU (hn 15 rfl)) id)))))))))))))))) m.out)
   ·go_simp
    refine hK.out (upd s 29 (.pointer (some ⟨g,0,none⟩))) _ _ (by simp [aC] <;> rfl) (kD (kC (kA (kX (fun _=>rfl) id))) m.out)
   ·have e4:=((jC (jD m.out)).2.1 (V 4 rfl))
    go_simp
    go_at_call 165
    refine (vN B g _ m.out.1).mono ?_
    rintro _ wy ⟨⟨k,e0,rfl,_⟩,ab,A⟩
    refine hK.out (upd s 30 (.agg #[.int .i64 k,.int .i64 e0])) _ _ (by simp [aC,e4] <;> rfl) (kX (ab) (kX (gT m.out.2.1 A) (kX (Nat.le_trans m.out.2.2.1 (World.grownBy.size A)) (kX ((bE A (bO m.out.2.2.2.1).2.2 a5).trans m.out.2.2.2.1) (kX ((bE A (bO m.out.2.2.2.2.1).2.2 ac).trans m.out.2.2.2.2.1) (kX (World.ownsRow.kept (jC m.out).2.1 A (.inr (own_ne (jC m.out).2.1 tO))) (kX (World.ownsRow.kept (jC m.out).2.2.1 A (.inr (own_ne (jC m.out).2.2.1 tO))) (kX (World.ownsRow.kept (jC m.out).2.2.2.1 A (.inr (own_ne (jC m.out).2.2.2.1 tO))) (kX (fun U=>World.ownsRow.kept ((jD m.out).1 U) A (.inr (own_ne ((jD m.out).1 U) tO))) (kC (kA (kX (fun _=>⟨_,_,rfl⟩) (kC (kB (kA (kX (nU (hn 13 rfl)) (kX (nU (hn 14 rfl)) (kX (nU (hn 15 rfl)) id))))))))))))))))) m.out)
   ·go_simp
    refine hK.out (upd s 31 (.pointer (some ⟨D,8,none⟩))) _ _ (by simp [aC] <;> rfl) (kD (kC (kB (kA (kX (fun _=>rfl) id)))) m.out)
   ·have e6:=((jC (jD m.out)).2.2.2.1 (V 6 rfl))
    have q:H.cell? ⟨D,8,none⟩=some (.int .i64 x.now):=(bO m.out.2.2.2.2.1).1 8
    go_simp
    refine hK.out (upd s 32 (.int .i64 x.now)) _ _ (by simp [aC,e6] <;> rfl) (kE (kX (fun _=>rfl) id) m.out)
   ·go_simp
    refine hK.out (upd s 33 (.pointer (some ⟨g,0,none⟩))) _ _ (by simp [aC] <;> rfl) (kE (kA (kX (fun _=>rfl) id)) m.out)
   ·have e8:=((jE m.out).2.1 (V 8 rfl))
    go_simp
    go_at_call 116
    refine (kP B g (-1) 1 _ m.out.1 tO tO tO tO).mono ?_
    rintro _ wy ⟨⟨z,rfl,_,_⟩,ab,A⟩
    refine hK.out (upd s 34 (.int .i64 z)) _ _ (by simp [aC,e8] <;> rfl) (kX (ab) (kX (gT m.out.2.1 A) (kX (Nat.le_trans m.out.2.2.1 (World.grownBy.size A)) (kX ((bE A (bO m.out.2.2.2.1).2.2 a5).trans m.out.2.2.2.1) (kX ((bE A (bO m.out.2.2.2.2.1).2.2 ac).trans m.out.2.2.2.2.1) (kX (World.ownsRow.kept (jC m.out).2.1 A (.inr (own_ne (jC m.out).2.1 tO))) (kX (World.ownsRow.kept (jC m.out).2.2.1 A (.inr (own_ne (jC m.out).2.2.1 tO))) (kX (World.ownsRow.kept (jC m.out).2.2.2.1 A (.inr (own_ne (jC m.out).2.2.2.1 tO))) (kX (fun U=>World.ownsRow.kept ((jD m.out).1 U) A (.inr (own_ne ((jD m.out).1 U) tO))) (kD (kA (kX (fun _=>⟨_,rfl⟩) (kX (nU (hn 10 rfl)) (kB (kX (nU (hn 13 rfl)) (kX (nU (hn 14 rfl)) (kX (nU (hn 15 rfl)) id)))))))))))))))) m.out)
   ·have e7:=((jE m.out).1 (V 7 rfl))
    obtain ⟨z,J⟩:=((jE m.out).2.2.1 (V 9 rfl))
    go_simp
    refine hK.out (upd s 35 (.int .i64 (IntKind.i64.wrap (x.now+z)))) _ _ (by simp [aC,e7,J] <;> rfl) (kE (kB (kA (kX (fun _=>⟨_,rfl⟩) id))) m.out)
   ·go_simp
    refine hK.out (upd s 36 (.pointer (some ⟨g,0,none⟩))) _ _ (by simp [aC] <;> rfl) (kE (kC (kX (fun _=>rfl) id)) m.out)
   ·have bm:=((jC (jE m.out)).1 (V 11 rfl))
    go_simp
    go_at_call 116
    refine (kP B g 0 5 _ m.out.1 tO tO tO tO).mono ?_
    rintro _ wy ⟨⟨z,rfl,_,_⟩,ab,A⟩
    refine hK.out (upd s 37 (.int .i64 z)) _ _ (by simp [aC,bm] <;> rfl) (kX (ab) (kX (gT m.out.2.1 A) (kX (Nat.le_trans m.out.2.2.1 (World.grownBy.size A)) (kX ((bE A (bO m.out.2.2.2.1).2.2 a5).trans m.out.2.2.2.1) (kX ((bE A (bO m.out.2.2.2.2.1).2.2 ac).trans m.out.2.2.2.2.1) (kX (World.ownsRow.kept (jC m.out).2.1 A (.inr (own_ne (jC m.out).2.1 tO))) (kX (World.ownsRow.kept (jC m.out).2.2.1 A (.inr (own_ne (jC m.out).2.2.1 tO))) (kX (World.ownsRow.kept (jC m.out).2.2.2.1 A (.inr (own_ne (jC m.out).2.2.2.1 tO))) (kX (fun U=>World.ownsRow.kept ((jD m.out).1 U) A (.inr (own_ne ((jD m.out).1 U) tO))) (kD (kC (kX (fun _=>⟨_,rfl⟩) (kX (nU (hn 13 rfl)) (kX (nU (hn 14 rfl)) (kX (nU (hn 15 rfl)) id)))))))))))))) m.out)
   ·obtain ⟨t,e3⟩:=((jC (jD m.out)).1 (V 3 rfl))
    obtain ⟨k,e0,e5⟩:=((jC (jD m.out)).2.2.1 (V 5 rfl))
    obtain ⟨f,bl⟩:=((jE m.out).2.2.2.1 (V 10 rfl))
    obtain ⟨p,bn⟩:=((jC (jE m.out)).2.1 (V 12 rfl))
    go_simp
    refine hK.out (upd s 38 (.agg #[.int .i64 (t),.int .i64 (k),.int .i64 (e0),.int .i64 0,.int .i64 (f),.int .i64 (p),.int .i64 0])) _ _ (by simp [aC,e3,e5,bl,bn] <;> rfl) (kE (kC (kB (kX (fun _=>⟨_,_,_,_,_,rfl⟩) id))) m.out)
   ·obtain ⟨t,k,e0,f,p,bo⟩:=((jC (jE m.out)).2.2.1 (V 13 rfl))
    go_simp
    refine hK.out (upd s 39 (.slice (some ⟨H,0,none⟩) 1 1)) _ _ (by simp [aC,bo] <;> rfl) (kX (DS.alloc m.out.1) (kX (gA m.out.2.1) (kX (Nat.le_trans m.out.2.2.1 (Below.size (aS H _))) (kX (eP m.out.2.2.2.1 (aS H _)) (kX (eP m.out.2.2.2.2.1 (aS H _)) (kX (own_below (jC m.out).2.1 (aS H _)) (kX (own_below (jC m.out).2.2.1 (aS H _)) (kX (own_below (jC m.out).2.2.2.1 (aS H _)) (kX (fun U=>own_below ((jD m.out).1 U) (aS H _)) (kD (kC (kB (kX (fun _ _=>⟨_,_,_,_,_,_,rfl,heap_alloc_new _ _⟩) (kX (nU (hn 15 rfl)) id))))))))))))) m.out)
   ·have e1:=((jD m.out).2.2.1 (V 1 rfl))
    have cm:=m.out.2.2.1
    have Ee:dV H (w+1) (s 26) x.deals:=by rw [e1];exact (jD m.out).1 hl
    obtain ⟨kb,t,k,e0,f,p,ek,zk⟩:=((jC (jE m.out)).2.2.2.1 (V 14 rfl)) hl
    have c8:∀ k,(s 26).ownBlock=some k→g<k:=fun k Z=>by have:=(Ee.lt k Z).1;omega
    have Rc:∀ k,(s 26).ownBlock=some k→w.heap.size≤k:=fun k Z=>by have:=(Ee.lt k Z).1;omega
    refine tK rfl _ _ 33 rfl (w.heap.size+1) 44 i6 _ 7 56 underlying33 bu bz bg b9 rfl (by decide) (s 26) x.deals (kJ x.deals) rfl Ee (some ⟨kb,0,none⟩) 1 1 #[.int .i64 (t),.int .i64 (k),.int .i64 (e0),.int .i64 0,.int .i64 (f),.int .i64 (p),.int .i64 0].toList ek (fun h=>nomatch h) rfl (GQ zk) (Kr _ _ _ _ _ _ _) (by unfold maxLen;omega) tO tO ?_
    intro v' w' o' g'
    refine hK.out (upd (upd s 1040 (v')) 40 (v')) _ _ (by simp [aC,Act.put] <;> rfl) (kX (m.out.1.grown g' c8) (kX (m.out.2.1.grown g' Rc) (kX (Nat.le_trans m.out.2.2.1 (World.grownBy.size g')) (kX ((bE g' (bO m.out.2.2.2.1).2.2 (fun J=>bH Ee m.out.2.2.2.1 (by decide) _ J.symm rfl)).trans m.out.2.2.2.1) (kX (by (have zz:=m.out.2.2.2.2.1);(rw [show l 17=false from hn 17 rfl] at zz);rw [show upd l 15 true 17=false from hn 17 rfl];exact (bE g' (bO zz).2.2 (fun J=>bH Ee zz (by decide) _ J.symm rfl)).trans zz) (kX (World.ownsRow.kept (jC m.out).2.1 g' (dD (jC m.out).2.1 Ee (by decide))) (kX (World.ownsRow.kept (jC m.out).2.2.1 g' (dD (jC m.out).2.2.1 Ee (by decide))) (kX (World.ownsRow.kept (jC m.out).2.2.2.1 g' (dD (jC m.out).2.2.2.1 Ee (by decide))) (kX (fun U=>nU U (show upd l 15 true 15=true from rfl)) (kD (kC (kB (kX (fun _ U=>nU U (show upd l 15 true 15=true from rfl)) (kX (fun _=>⟨⟨t,k,e0,0,f,p,0⟩,rfl,dV.snoc o'⟩) id))))))))))))) m.out)
   ·go_simp
    refine hK.out (upd s 41 (.pointer (some ⟨D,7,none⟩))) _ _ (by simp [aC] <;> rfl) (kE (kD (kA (fun _=>fun _=>rfl))) m.out)
   ·have bp:=((jD (jE m.out)).2 (V 16 rfl))
    obtain ⟨de,b5,OD⟩:=((jD (jE m.out)).1 (V 15 rfl))
    have a6:=m.out.2.2.2.2.1
    rw [hl] at a6
    dsimp only [cond] at a6
    obtain ⟨na,nc,en,_⟩:=OD.seg
    rw [List.length_append,List.length_singleton] at en
    rw [en] at b5
    have fB:=(bO a6).2.1
    have co:=(bO a6).2.2
    have qB:H.cell? ⟨D,7,none⟩=some (.slice e x.deals p4):=(bO a6).1 7
    have M:H.grownBy (H.setCell ⟨D,7,none⟩ (.slice na (x.deals.length+1) nc)) (some D.heap.size):=gS (gR _ H) (.inl rfl)
    have zn:hp (H.setCell ⟨D,7,none⟩ (.slice na (x.deals.length+1) nc)) D=some (.cells #[x.ch.cap,x.ch.sent,x.ch.got,x.ch.fin,.slice a x.ch.cells p1,.slice b x.ch.words p2,.slice d x.hands p3,s 1040,x.now] 35):=by rw [en,gG,a6];rfl
    go_simp
    refine hK.out (s) _ _ (by simp [aC,bp,b5] <;> rfl) (kX (m.out.1.grown M (fun k Z=>by simp at Z;omega)) (kX (m.out.2.1.grown M (fun k Z=>by simp at Z;omega)) (kX (Nat.le_trans m.out.2.2.1 (World.grownBy.size M)) (kX ((bE M (bO m.out.2.2.2.1).2.2 (by simp;omega)).trans m.out.2.2.2.1) (kX (zn) (kX (World.ownsRow.kept (jC m.out).2.1 M (.inr fun J=>bH (jC m.out).2.1 a6 (by decide) _ J rfl)) (kX (World.ownsRow.kept (jC m.out).2.2.1 M (.inr fun J=>bH (jC m.out).2.2.1 a6 (by decide) _ J rfl)) (kX (World.ownsRow.kept (jC m.out).2.2.2.1 M (.inr fun J=>bH (jC m.out).2.2.2.1 a6 (by decide) _ J rfl)) (kX (fun U=>nU U (V 15 rfl)) (kD (kC (kB (kX (fun _ U=>nU U (V 15 rfl)) (kX (fun U=>(let ⟨de,u1,u2⟩:=(jD (jE m.out)).1 U;⟨de,u1,World.ownsRow.kept u2 M (.inr fun J=>bH u2 a6 (by decide) _ J rfl)⟩)) id))))))))))))) m.out)
  ·obtain ⟨L,b4,ev,b2,c7,an,ao⟩:=cO.open1 I.2.2.1 (i:=0) tO
   simp at ev
   obtain ⟨rfl,rfl⟩:=ev
   have c9:¬ D.heap.size=L:=fun e=>bH I.2.2.1 E (by decide) L rfl e.symm
   have ax:(0:Int)<(x.hands.length:Int):=by omega
   have cc:0<x.hands.length:=by omega
   have cj:¬ L=g:=by omega
   clear an ao
   go_wp2_with fail
   refine iT [[],[0],[],[2],[0,1],[0,1,4],[0,1,2,3,4,5]] [44,45,46,47,48,49] (fun l s H=>(DS H B g)∧(Gr g w H)∧(w3≤H.heap.size)∧(hp H w=some (.cells #[.int .i64 0,.int .i64 0,.int .i64 0,.int .i64 0,.slice none 0 0,.slice none 0 0,.slice none 0 0,.slice none 0 0,.int .i64 0] 35))∧(hp H D=some (.cells #[x.ch.cap,x.ch.sent,x.ch.got,x.ch.fin,.slice a x.ch.cells p1,.slice b x.ch.words p2,.slice (some ⟨L,0,none⟩) x.hands p3,.slice e x.deals p4,x.now] 35))∧(aD H (w+1) (.slice a x.ch.cells p1) x.ch.cells)∧(aG H (w+1) (.slice b x.ch.words p2) x.ch.words)∧(dV H (w+1) (.slice e x.deals p4) x.deals)∧(l 6=false→cO H (w+1) (.slice (some ⟨L,0,none⟩) x.hands p3) x.hands)∧(l 6=true→∃ y:Ha,cO H (w+1) (.slice (some ⟨L,0,none⟩) x.hands p3) (x.hands.set 0 y))∧(l 0=true→s 44=.pointer (some ⟨D,6,none⟩))∧(l 1=true→s 45=.slice (some ⟨L,0,none⟩) x.hands p3)∧(l 2=true→s 46=.pointer (some ⟨g,0,none⟩))∧(l 3=true→∃ z:Int,s 47=.int .i64 z)∧(l 4=true→s 48=.pointer (some ⟨L,0,none⟩))∧(l 5=true→s 49=.pointer (some ⟨L,0,none⟩))) (fun s=>⟨a9.drew,gD a7,Nat.le_refl _,G,E,I.1.drew,I.2.1.drew,I.2.2.2.drew,fun _=>I.2.2.1.drew,nB,nB,nB,nB,nB,nB,nB⟩) ?_ ?_
   refine ⟨?_,?_,?_,?_,?_,?_,?_,trivial⟩;iterate 7 (intro l s H hl V hn m K hK;rotate_left)
   ·intro l s wf a8 m
    have b1:=m.1
    have b0:=m.2.1
    have aq:=m.2.2.2.1
    have aa:=m.2.2.2.2.1
    have m1:=(jC m).2.1
    have m2:=(jC m).2.2.1
    have m4:=(jC m).2.2.2.1
    have Rv:=(jD m).2.1 (a8 6 rfl)
    obtain ⟨y,m3⟩:=Rv
    clear m a8 T R O a1 a3 a0 G E
    obtain ⟨T,R,O⟩:=bO aq
    obtain ⟨a1,a3,a0⟩:=bO aa
    have ey:(x.hands.set 0 y).length=x.hands.length:=List.length_set
    obtain ⟨S,N,i1,i2,i3,i4⟩:=iG (x:={ x with hands:=x.hands.set 0 y }) (p3:=p3) ⟨m1,m2,by show cO _ _ (.slice _ (x.hands.set 0 y).length _) _;rw [ey];exact m3,m4⟩
    have L6:jk { x with hands:=x.hands.set 0 y }:=⟨F.1,F.2.1,by show (x.hands.set 0 y).length≤_;rw [ey];exact F.2.2.1,F.2.2.2⟩
    go_wp2
    refine bodyPost_ret (v:=.agg #[x.ch.cap,x.ch.sent,x.ch.got,x.ch.fin,.slice a x.ch.cells p1,.slice b x.ch.words p2,.slice (some ⟨L,0,none⟩) (x.hands.set 0 y).length p3,.slice e x.deals p4,x.now]) (by simp [results,results114,go_sem, *]) rfl ?_
    generalize Y:World.setCell _ _ _=W'
    refine nM (x:={ x with hands:=x.hands.set 0 y }) (W:=wf) b1 b0 (by rw [← Y];exact zG) a4 S N L6 (by show (x.hands.set 0 y).length≤6;omega) i1 i2 i3 i4
   ·go_simp
    refine hK.out (upd s 44 (.pointer (some ⟨D,6,none⟩))) _ _ (by simp [aC] <;> rfl) (kD (kB (kX (fun _=>rfl) id)) m.out)
   ·have e0:=((jD m.out).2.2.1 (V 0 rfl))
    have q:H.cell? ⟨D,6,none⟩=some (.slice (some ⟨L,0,none⟩) x.hands p3):=(bO m.out.2.2.2.2.1).1 6
    go_simp
    refine hK.out (upd s 45 (.slice (some ⟨L,0,none⟩) x.hands p3)) _ _ (by simp [aC,e0] <;> rfl) (kD (kB (kA (kX (fun _=>rfl) id))) m.out)
   ·go_simp
    refine hK.out (upd s 46 (.pointer (some ⟨g,0,none⟩))) _ _ (by simp [aC] <;> rfl) (kD (kC (kX (fun _=>rfl) id)) m.out)
   ·have e2:=((jC (jD m.out)).1 (V 2 rfl))
    go_simp
    go_at_call 116
    refine (kP B g 0 26 _ m.out.1 tO tO tO tO).mono ?_
    rintro _ wy ⟨⟨z,rfl,_,_⟩,ab,A⟩
    refine hK.out (upd s 47 (.int .i64 z)) _ _ (by simp [aC,e2] <;> rfl) (kX (ab) (kX (gT m.out.2.1 A) (kX (Nat.le_trans m.out.2.2.1 (World.grownBy.size A)) (kX ((bE A (bO m.out.2.2.2.1).2.2 a5).trans m.out.2.2.2.1) (kX ((bE A (bO m.out.2.2.2.2.1).2.2 ac).trans m.out.2.2.2.2.1) (kX (World.ownsRow.kept (jC m.out).2.1 A (.inr (own_ne (jC m.out).2.1 tO))) (kX (World.ownsRow.kept (jC m.out).2.2.1 A (.inr (own_ne (jC m.out).2.2.1 tO))) (kX (World.ownsRow.kept (jC m.out).2.2.2.1 A (.inr (own_ne (jC m.out).2.2.2.1 tO))) (kX (fun U=>World.ownsRow.kept ((jD m.out).1 U) A (.inr (own_ne ((jD m.out).1 U) tO))) (kX (fun U=>nU (show l 6=false from hn 6 rfl) U) (kB (kA (kX (fun _=>⟨_,rfl⟩) id)))))))))))) m.out)
   ·have e1:=((jD m.out).2.2.2.1 (V 1 rfl))
    go_simp
    refine hK.out (upd s 48 (.pointer (some ⟨L,0,none⟩))) _ _ (by simp [aC,e1] <;> rfl) (kD (kC (kB (kX (fun _=>rfl) id))) m.out)
   ·have e4:=((jC (jD m.out)).2.2.1 (V 4 rfl))
    go_simp
    refine hK.out (upd s 49 (.pointer (some ⟨L,0,none⟩))) _ _ (by simp [aC,e4] <;> rfl) (kD (kC (kB (kA (fun _=>fun _=>rfl)))) m.out)
   ·have e5:=((jC (jD m.out)).2.2.2 (V 5 rfl))
    obtain ⟨z,e3⟩:=((jC (jD m.out)).2.1 (V 3 rfl))
    have ai:=(jD m.out).1 hl
    have M:H.grownBy (H.setCell ⟨L,0,none⟩ (.int .i64 z)) (some L):=gS (gR _ H) (.inl rfl)
    obtain ⟨g4,c4,b6,_,cu,bc,be⟩:=cO.open1 ai (i:=0) tO
    simp at b6
    obtain ⟨rfl,rfl⟩:=b6
    have q0:=bc 0 tO
    simp at q0
    have q1:=be 0
    go_simp
    refine hK.out (s) _ _ (by simp [aC,e5,e3] <;> rfl) (kX (m.out.1.grown M (fun k Z=>by simp at Z;omega)) (kX (m.out.2.1.grown M (fun k Z=>by simp at Z;omega)) (kX (Nat.le_trans m.out.2.2.1 (World.grownBy.size M)) (kX ((bE M (bO m.out.2.2.2.1).2.2 (by simp;omega)).trans m.out.2.2.2.1) (kX ((bE M (bO m.out.2.2.2.2.1).2.2 (by simpa using c9)).trans m.out.2.2.2.2.1) (kX (World.ownsRow.kept (jC m.out).2.1 M (.inr (gI (dD (jC m.out).2.1 ai (by decide)) rfl))) (kX (World.ownsRow.kept (jC m.out).2.2.1 M (.inr (gI (dD (jC m.out).2.2.1 ai (by decide)) rfl))) (kX (World.ownsRow.kept (jC m.out).2.2.2.1 M (.inr (gI (dD (jC m.out).2.2.2.1 ai (by decide)) rfl))) (kX (fun U=>nU U (show upd l 6 true 6=true from rfl)) (kX (fun _=>⟨_,by have:=cO.pos ai tO z;rw [List.length_set] at this;exact this⟩) id))))))))) m.out)
  ·go_wp2_with fail
   refine (yG B g _ a9).mono ?_
   rintro _ w4 ⟨⟨c,ca,cp,cv,rfl,s1,t1,bf,ar,cr,ct⟩,am,X⟩
   have ak:Gr g w w4:=gT a7 X
   have cd:D<w3.heap.size:=a0
   have ce:w<w3.heap.size:=O
   replace G:=(bE X (bO G).2.2 a5).trans G
   replace E:=(bE X (bO E).2.2 ac).trans E
   replace I:=I.gr X tO
   clear T R O a1 a3 a0
   obtain ⟨T,R,O⟩:=bO G
   obtain ⟨a1,a3,a0⟩:=bO E
   obtain ⟨cb,cq,rfl,_⟩:=aG.seg ar
   have gb:w4.grownBy ((((((w4.setCell ⟨D,0,none⟩ (.int .i64 c.cap)).setCell ⟨D,1,none⟩ (.int .i64 c.sent)).setCell ⟨D,2,none⟩ (.int .i64 c.got)).setCell ⟨D,3,none⟩ (.int .i64 c.fin)).setCell ⟨D,4,none⟩ (.slice ca c.cells cp)).setCell ⟨D,5,none⟩ (.slice cb c.words cq)) (some D.heap.size):=gS (gS (gS (gS (gS (gS (gR _ _) (.inl rfl)) (.inl rfl)) (.inl rfl)) (.inl rfl)) (.inl rfl)) (.inl rfl)
   obtain ⟨s2,t2⟩:=aG.segz ar
   obtain ⟨S,N,i1,i2,i3,i4⟩:=iG I
   have S6:ic ((((((w4.setCell ⟨D,0,none⟩ (.int .i64 c.cap)).setCell ⟨D,1,none⟩ (.int .i64 c.sent)).setCell ⟨D,2,none⟩ (.int .i64 c.got)).setCell ⟨D,3,none⟩ (.int .i64 c.fin)).setCell ⟨D,4,none⟩ (.slice ca c.cells cp)).setCell ⟨D,5,none⟩ (.slice cb c.words cq)) (((((((w4.setCell ⟨D,0,none⟩ (.int .i64 c.cap)).setCell ⟨D,1,none⟩ (.int .i64 c.sent)).setCell ⟨D,2,none⟩ (.int .i64 c.got)).setCell ⟨D,3,none⟩ (.int .i64 c.fin)).setCell ⟨D,4,none⟩ (.slice ca c.cells cp)).setCell ⟨D,5,none⟩ (.slice cb c.words cq))).heap.size { x with ch:=c } ca cb d e:=⟨Seg.grown (B:=0) s1 gb (fun ad J k=>by have:=bf ad J;simp at k;omega),Seg.grown (B:=0) s2 gb (fun ad J k=>bH ar E (by decide) ad.block (by subst J;rfl) (by simpa using k.symm)),Seg.grown (B:=0) S.2.2.1 gb (fun ad J k=>bH I.2.2.1 E (by decide) ad.block (by subst J;rfl) (by simpa using k.symm)),Seg.grown (B:=0) S.2.2.2 gb (fun ad J k=>bH I.2.2.2 E (by decide) ad.block (by subst J;rfl) (by simpa using k.symm))⟩
   have N6:jl { x with ch:=c } ca cb d e cp cq p3 p4:=⟨t1,t2,N.2.2.1,N.2.2.2⟩
   have L6:jk { x with ch:=c }:=⟨by show c.cells.length≤_;omega,by show c.words.length≤_;omega,F.2.2.1,F.2.2.2⟩
   have c1:Hi (w+1) ca:=fun ad J=>by have:=bf ad J;omega
   have c6:Hi (w+1) cb:=fun ad J=>by have:=xy ar ad J;omega
   have al:DS ((((((w4.setCell ⟨D,0,none⟩ (.int .i64 c.cap)).setCell ⟨D,1,none⟩ (.int .i64 c.sent)).setCell ⟨D,2,none⟩ (.int .i64 c.got)).setCell ⟨D,3,none⟩ (.int .i64 c.fin)).setCell ⟨D,4,none⟩ (.slice ca c.cells cp)).setCell ⟨D,5,none⟩ (.slice cb c.words cq)) B g:=am.grown gb (fun k Z=>by simp at Z;omega)
   have aj:Gr g w ((((((w4.setCell ⟨D,0,none⟩ (.int .i64 c.cap)).setCell ⟨D,1,none⟩ (.int .i64 c.sent)).setCell ⟨D,2,none⟩ (.int .i64 c.got)).setCell ⟨D,3,none⟩ (.int .i64 c.fin)).setCell ⟨D,4,none⟩ (.slice ca c.cells cp)).setCell ⟨D,5,none⟩ (.slice cb c.words cq)):=ak.grown gb (fun k Z=>by simp at Z;omega)
   go_wp2
   refine bodyPost_ret (v:=.agg #[c.cap,c.sent,c.got,c.fin,.slice ca c.cells cp,.slice cb c.words cq,.slice d x.hands p3,.slice e x.deals p4,x.now]) (by simp [results,results114,go_sem, *]) rfl ?_
   generalize Y:World.setCell _ _ _=W'
   refine nM (x:={ x with ch:=c }) (W:=((((((w4.setCell ⟨D,0,none⟩ (.int .i64 c.cap)).setCell ⟨D,1,none⟩ (.int .i64 c.sent)).setCell ⟨D,2,none⟩ (.int .i64 c.got)).setCell ⟨D,3,none⟩ (.int .i64 c.fin)).setCell ⟨D,4,none⟩ (.slice ca c.cells cp)).setCell ⟨D,5,none⟩ (.slice cb c.words cq))) al aj (by rw [← Y];exact zG) a4 S6 N6 L6 h6 c1 c6 i3 i4
end
end Go.Proofs.YtffhjmepfojhnaaGreat
