/-
  The draws of channels from the code, with a number beside them; only the code's own memory is made; the code is of at most 4096 bytes.
  The laws' comparisons of lists and of channels, of two that hold the same; lists of any length that memory holds.
  The contracts of the program's functions of chapter 1; no condition but that lists lie in memory.
  The program's functions of chapter 2; lists lie in memory and hold at most what memory can hold.
  The reference model's KeptIn, WaitingIn and NewChan; lists lie in memory and hold at most 2 ^ 40 elements.
-/
import Derived.Test.YtikhaaccgoiaeaaP22
import Derived.Test.YtikhaaccgoiaeaaP18
import Derived.Test.YtikhaaccgoiaeaaP01
import Derived.Test.YtikhaaccgoiaeaaP02
import Derived.Deep.AppendLies
set_option linter.unusedSimpArgs false
set_option linter.unusedVariables false
namespace Go.Proofs.Ytikhaaccgoiaeaa
open Go.RowKit
set_option linter.unusedSimpArgs false
/-- A channel and a number are answered. -/
def ChanDI (w':World) (lo:Nat) (r:Ending):Prop:=∃ (c:Ch) (a:Option Addr) (p:Nat) (v2:Value) (n:Int),r=.returned (.tuple #[.agg #[.int .i64 c.cap,.int .i64 c.sent,.int .i64 c.got,.int .i64 c.fin,.slice a c.cells.length p,v2],.int .i64 n])∧Seg w' w'.heap.size a c.cells.length 3 (cellF c.cells)∧(a=none→p=0)∧OInts w' lo v2 c.words∧c.cells.length≤40∧c.words.length≤38
theorem Seg.store {w:World} {B n k:Nat} {a:Option Addr} {f:Nat→Nat→Value} (h:Seg w B a n k f) {p:Addr} (hp:∀ ad,a=some ad→ad.block≠p.block) (u:Value):Seg (w.setCell p u) B a n k f:=by
  rcases h with h|⟨b,o,rfl,hb,hc⟩
  · exact .inl h
  · refine .inr ⟨b,o,rfl,hb,fun i j hi hj=>?_⟩
    rw [← hc i j hi hj]
    exact World.cell?_setCell_other _ _ _ _ (fun e=>by subst e;exact hp _ rfl rfl)
theorem Seg.drew {w:World} {B n k:Nat} {a:Option Addr} {f:Nat→Nat→Value} (h:Seg w B a n k f):Seg w.drew B a n k f:=h
theorem Seg.gr {w w':World} {g B n k:Nat} {a:Option Addr} {f:Nat→Nat→Value} (h:Seg w B a n k f) (hg:Gr g w w') (hB:B≤w.heap.size) (hp:∀ ad,a=some ad→ad.block≠g):Seg w' w'.heap.size a n k f:=by
  rcases h with h|⟨b,o,rfl,hb,hc⟩
  · exact .inl h
  · refine .inr ⟨b,o,rfl,Nat.lt_of_lt_of_le hb (Nat.le_trans hB hg.size),fun i j hi hj=>?_⟩
    rw [← hc i j hi hj]
    exact World.cell?_of_block (hg.block b (Nat.lt_of_lt_of_le hb hB) (fun e=>hp _ rfl (by simpa using e)))
theorem Seg.alloc {w:World} {B n k:Nat} {a:Option Addr} {f:Nat→Nat→Value} (h:Seg w B a n k f) (hB:B≤w.heap.size) (o:Obj):Seg (w.alloc o) B a n k f:=by
  rcases h with h|⟨b,off,rfl,hb,hc⟩
  · exact .inl h
  · refine .inr ⟨b,off,rfl,hb,fun i j hi hj=>?_⟩
    rw [← hc i j hi hj]
    exact World.cell?_of_block (Below.heap_alloc w o b (Nat.lt_of_lt_of_le hb hB))
set_option maxHeartbeats 1000000 in
theorem drawChanOk_any (n cap:Nat) (a:Option Addr) (bs:Nat→Int) (w:World) (h:Code w w.heap.size a n bs) :
    Calls Try.prog 7 #[.slice a n cap] w fun r w'=>ChanD w' w.heap.size r∧Below w.heap.size w w':=by
  go_enter Try.func7,Try.ntmps7
  go_wp2_with fail;refine (new_any w.heap.size _ _ _ bs _ (h.below (by (repeat (with_reducible first|assumption|exact bR|refine bA ?_|refine bD ?_|((first|refine bS ?_ ?_|refine bBx ?_ ?_);rotate_left;focus (try simp) <;> (try omega)))))) (by ((try simp);(try omega)))).mono ?_;rintro _ w1 ⟨g,rfl,hdw1,hgle,hbw1⟩;have hBw1:Below w.heap.size w w1:=bT (by (repeat (with_reducible first|assumption|exact bR|refine bA ?_|refine bD ?_|((first|refine bS ?_ ?_|refine bBx ?_ ?_);rotate_left;focus (try simp) <;> (try omega))))) hbw1;have hlw1:=hdw1.lt;have hsw1:=hbw1.size;(try (simp at hsw1));(try (simp at hgle));have:=fun o=>hbw1.cell (p:=⟨w.heap.size,o,none⟩) (by ((try simp);(try omega)));have:=fun o=>hbw1.frozen (p:=⟨w.heap.size,o,none⟩) (by ((try simp);(try omega)));have:w.heap.size<w1.heap.size:=(by omega);have:w.heap.size≤w1.heap.size:=(by omega);have:w.heap.size≤w1.heap.size+1:=(by omega)
  go_wp2_with fail;refine (l2DrawAny_any w.heap.size g  _ (by (repeat (first|with_reducible assumption|with_reducible refine DS.alloc ?_|with_reducible refine DS.drew ?_|((with_reducible refine DS.setCell ?_ ?_ ?_);rotate_left;(focus ((try simp);(try omega)));(focus ((try simp);(try omega))))))) ).mono ?_;rintro _ w2 ⟨⟨c,a2,p2,v2,rfl,hs,hz,hlo,ho,hl1,hl2⟩,hdw2,hgw2⟩;have hBw2:Below w.heap.size w w2:=bG (by (repeat (with_reducible first|assumption|exact bR|refine bA ?_|refine bD ?_|((first|refine bS ?_ ?_|refine bBx ?_ ?_);rotate_left;focus (try simp) <;> (try omega))))) hgw2 (by omega);have hlw2:=hdw2.lt;have hsw2:=hgw2.size;(try (simp at hsw2));have:=gCell hgw2 (b:=w.heap.size) ((by ((try simp);(try omega)))) (by omega);have:=gFroz hgw2 (b:=w.heap.size) ((by ((try simp);(try omega)))) (by omega);have:w.heap.size<w2.heap.size:=(by omega);have:w.heap.size≤w2.heap.size:=(by omega);have:w.heap.size≤w2.heap.size+1:=(by omega)
  have HO:=Lib.hid ho
  obtain ⟨b2,q2,rfl,_⟩:=ho.seg
  go_wp2
  refine bodyPost_ret (v:=.agg #[.int .i64 c.cap,.int .i64 c.sent,.int .i64 c.got,.int .i64 c.fin,.slice a2 c.cells.length p2,(.slice b2 c.words.length q2)]) (by simp [results,Try.results7,go_sem, *]) rfl ⟨⟨c,a2,p2,_,rfl,?_,hz,?_,?_,hl1,hl2⟩,?_⟩
  · (refine Seg.more (B:=w2.heap.size) ?_ (by simp));(repeat (first|with_reducible exact hs|with_reducible refine Seg.drew ?_|((with_reducible refine Seg.store ?_ ?_ _);rotate_left;(focus (intro ad e;have:=hlo ad e;(try dsimp only);omega)))))
  · exact fun ad e=>by have:=hlo ad e;omega
  · (refine own_lo (lo:=w1.heap.size) ?_ (by omega));(repeat first|with_reducible exact HO.out|with_reducible refine oAl ?_ _|with_reducible refine oDr ?_|((with_reducible first|refine own_store ?_ ?_ _|refine own_box ?_ ?_);rotate_left;focus first|(refine own_ne HO.out ?_;(try dsimp only);omega)|(refine own_ne' HO.out ?_;(try dsimp only);omega)))
  · (repeat (with_reducible first|assumption|exact bR|refine bA ?_|refine bD ?_|((first|refine bS ?_ ?_|refine bBx ?_ ?_);rotate_left;focus (try simp) <;> (try omega))))
set_option maxHeartbeats 1000000 in
theorem drawKeptIn_any (n cap:Nat) (a:Option Addr) (bs:Nat→Int) (w:World) (h:Code w w.heap.size a n bs) :
    Calls Try.prog 10 #[.slice a n cap] w fun r w'=>ChanD w' w.heap.size r∧Below w.heap.size w w':=by
  go_enter Try.func10,Try.ntmps10
  go_wp2_with fail;refine (new_any w.heap.size _ _ _ bs _ (h.below (by (repeat (with_reducible first|assumption|exact bR|refine bA ?_|refine bD ?_|((first|refine bS ?_ ?_|refine bBx ?_ ?_);rotate_left;focus (try simp) <;> (try omega)))))) (by ((try simp);(try omega)))).mono ?_;rintro _ w1 ⟨g,rfl,hdw1,hgle,hbw1⟩;have hBw1:Below w.heap.size w w1:=bT (by (repeat (with_reducible first|assumption|exact bR|refine bA ?_|refine bD ?_|((first|refine bS ?_ ?_|refine bBx ?_ ?_);rotate_left;focus (try simp) <;> (try omega))))) hbw1;have hlw1:=hdw1.lt;have hsw1:=hbw1.size;(try (simp at hsw1));(try (simp at hgle));have:=fun o=>hbw1.cell (p:=⟨w.heap.size,o,none⟩) (by ((try simp);(try omega)));have:=fun o=>hbw1.frozen (p:=⟨w.heap.size,o,none⟩) (by ((try simp);(try omega)));have:w.heap.size<w1.heap.size:=(by omega);have:w.heap.size≤w1.heap.size:=(by omega);have:w.heap.size≤w1.heap.size+1:=(by omega)
  go_wp2_with fail;refine (l2DrawAny_any w.heap.size g  _ (by (repeat (first|with_reducible assumption|with_reducible refine DS.alloc ?_|with_reducible refine DS.drew ?_|((with_reducible refine DS.setCell ?_ ?_ ?_);rotate_left;(focus ((try simp);(try omega)));(focus ((try simp);(try omega))))))) ).mono ?_;rintro _ w2 ⟨⟨c,a2,p2,v2,rfl,hs,hz,hlo,ho,hl1,hl2⟩,hdw2,hgw2⟩;have hBw2:Below w.heap.size w w2:=bG (by (repeat (with_reducible first|assumption|exact bR|refine bA ?_|refine bD ?_|((first|refine bS ?_ ?_|refine bBx ?_ ?_);rotate_left;focus (try simp) <;> (try omega))))) hgw2 (by omega);have hlw2:=hdw2.lt;have hsw2:=hgw2.size;(try (simp at hsw2));have:=gCell hgw2 (b:=w.heap.size) ((by ((try simp);(try omega)))) (by omega);have:=gFroz hgw2 (b:=w.heap.size) ((by ((try simp);(try omega)))) (by omega);have:w.heap.size<w2.heap.size:=(by omega);have:w.heap.size≤w2.heap.size:=(by omega);have:w.heap.size≤w2.heap.size+1:=(by omega)
  have HO:=Lib.hid ho
  obtain ⟨b2,q2,rfl,_⟩:=ho.seg
  go_wp2
  refine bodyPost_ret (v:=.agg #[.int .i64 c.cap,.int .i64 c.sent,.int .i64 c.got,.int .i64 c.fin,.slice a2 c.cells.length p2,(.slice b2 c.words.length q2)]) (by simp [results,Try.results10,go_sem, *]) rfl ⟨⟨c,a2,p2,_,rfl,?_,hz,?_,?_,hl1,hl2⟩,?_⟩
  · (refine Seg.more (B:=w2.heap.size) ?_ (by simp));(repeat (first|with_reducible exact hs|with_reducible refine Seg.drew ?_|((with_reducible refine Seg.store ?_ ?_ _);rotate_left;(focus (intro ad e;have:=hlo ad e;(try dsimp only);omega)))))
  · exact fun ad e=>by have:=hlo ad e;omega
  · (refine own_lo (lo:=w1.heap.size) ?_ (by omega));(repeat first|with_reducible exact HO.out|with_reducible refine oAl ?_ _|with_reducible refine oDr ?_|((with_reducible first|refine own_store ?_ ?_ _|refine own_box ?_ ?_);rotate_left;focus first|(refine own_ne HO.out ?_;(try dsimp only);omega)|(refine own_ne' HO.out ?_;(try dsimp only);omega)))
  · (repeat (with_reducible first|assumption|exact bR|refine bA ?_|refine bD ?_|((first|refine bS ?_ ?_|refine bBx ?_ ?_);rotate_left;focus (try simp) <;> (try omega))))
set_option maxHeartbeats 400000 in
theorem drawNewChan_any (n cap:Nat) (a:Option Addr) (bs:Nat→Int) (w:World) (h:Code w w.heap.size a n bs) :
    Calls Try.prog 8 #[.slice a n cap] w fun r w'=>SomeI r∧Below w.heap.size w w':=by
  go_enter Try.func8,Try.ntmps8
  go_wp2_with fail;refine (new_any w.heap.size _ _ _ bs _ (h.below (by (repeat (with_reducible first|assumption|exact bR|refine bA ?_|refine bD ?_|((first|refine bS ?_ ?_|refine bBx ?_ ?_);rotate_left;focus (try simp) <;> (try omega)))))) (by ((try simp);(try omega)))).mono ?_;rintro _ w1 ⟨g,rfl,hdw1,hgle,hbw1⟩;have hBw1:Below w.heap.size w w1:=bT (by (repeat (with_reducible first|assumption|exact bR|refine bA ?_|refine bD ?_|((first|refine bS ?_ ?_|refine bBx ?_ ?_);rotate_left;focus (try simp) <;> (try omega))))) hbw1;have hlw1:=hdw1.lt;have hsw1:=hbw1.size;(try (simp at hsw1));(try (simp at hgle))
  go_wp2_with fail;refine (l1From_any w.heap.size g (-1) 5  _ (by (repeat (first|with_reducible assumption|with_reducible refine DS.alloc ?_|with_reducible refine DS.drew ?_|((with_reducible refine DS.setCell ?_ ?_ ?_);rotate_left;(focus ((try simp);(try omega)));(focus ((try simp);(try omega)))))))  (by omega) (by omega) (by omega) (by omega)).mono ?_;rintro _ w2 ⟨⟨x2,rfl,_,_⟩,hdw2,hgw2⟩;have hBw2:Below w.heap.size w w2:=bG (by (repeat (with_reducible first|assumption|exact bR|refine bA ?_|refine bD ?_|((first|refine bS ?_ ?_|refine bBx ?_ ?_);rotate_left;focus (try simp) <;> (try omega))))) hgw2 (by omega);have hlw2:=hdw2.lt;have hsw2:=hgw2.size;(try (simp at hsw2))
  go_wp2
  go_ret
  exact ⟨⟨_,rfl⟩,by (repeat (with_reducible first|assumption|exact bR|refine bA ?_|refine bD ?_|((first|refine bS ?_ ?_|refine bBx ?_ ?_);rotate_left;focus (try simp) <;> (try omega))))⟩
set_option maxHeartbeats 1000000 in
theorem drawWaitingIn_any (n cap:Nat) (a:Option Addr) (bs:Nat→Int) (w:World) (h:Code w w.heap.size a n bs) :
    Calls Try.prog 11 #[.slice a n cap] w fun r w'=>ChanDI w' w.heap.size r∧Below w.heap.size w w':=by
  go_enter Try.func11,Try.ntmps11
  go_wp2_with fail;refine (new_any w.heap.size _ _ _ bs _ (h.below (by (repeat (with_reducible first|assumption|exact bR|refine bA ?_|refine bD ?_|((first|refine bS ?_ ?_|refine bBx ?_ ?_);rotate_left;focus (try simp) <;> (try omega)))))) (by ((try simp);(try omega)))).mono ?_;rintro _ w1 ⟨g,rfl,hdw1,hgle,hbw1⟩;have hBw1:Below w.heap.size w w1:=bT (by (repeat (with_reducible first|assumption|exact bR|refine bA ?_|refine bD ?_|((first|refine bS ?_ ?_|refine bBx ?_ ?_);rotate_left;focus (try simp) <;> (try omega))))) hbw1;have hlw1:=hdw1.lt;have hsw1:=hbw1.size;(try (simp at hsw1));(try (simp at hgle));have:=fun o=>hbw1.cell (p:=⟨w.heap.size,o,none⟩) (by ((try simp);(try omega)));have:=fun o=>hbw1.frozen (p:=⟨w.heap.size,o,none⟩) (by ((try simp);(try omega)));have:w.heap.size<w1.heap.size:=(by omega);have:w.heap.size≤w1.heap.size:=(by omega);have:w.heap.size≤w1.heap.size+1:=(by omega)
  go_wp2_with fail;refine (l2DrawAny_any w.heap.size g  _ (by (repeat (first|with_reducible assumption|with_reducible refine DS.alloc ?_|with_reducible refine DS.drew ?_|((with_reducible refine DS.setCell ?_ ?_ ?_);rotate_left;(focus ((try simp);(try omega)));(focus ((try simp);(try omega))))))) ).mono ?_;rintro _ w2 ⟨⟨c,a2,p2,v2,rfl,hs,hz,hlo,ho,hl1,hl2⟩,hdw2,hgw2⟩;have hBw2:Below w.heap.size w w2:=bG (by (repeat (with_reducible first|assumption|exact bR|refine bA ?_|refine bD ?_|((first|refine bS ?_ ?_|refine bBx ?_ ?_);rotate_left;focus (try simp) <;> (try omega))))) hgw2 (by omega);have hlw2:=hdw2.lt;have hsw2:=hgw2.size;(try (simp at hsw2));have:=gCell hgw2 (b:=w.heap.size) ((by ((try simp);(try omega)))) (by omega);have:=gFroz hgw2 (b:=w.heap.size) ((by ((try simp);(try omega)))) (by omega);have:w.heap.size<w2.heap.size:=(by omega);have:w.heap.size≤w2.heap.size:=(by omega);have:w.heap.size≤w2.heap.size+1:=(by omega)
  have HO:=Lib.hid ho
  obtain ⟨b2,q2,rfl,_⟩:=ho.seg
  go_wp2_with fail
  go_region_held3 (fun w'=>w'.cell? ⟨w2.heap.size,0,none⟩=some (.int .i64 c.cap)∧w'.cell? ⟨w2.heap.size,1,none⟩=some (.int .i64 c.sent)∧w'.cell? ⟨w2.heap.size,2,none⟩=some (.int .i64 c.got)∧w'.cell? ⟨w2.heap.size,3,none⟩=some (.int .i64 c.fin)∧w'.cell? ⟨w2.heap.size,4,none⟩=some (.slice a2 c.cells.length p2)∧w'.cell? ⟨w2.heap.size,5,none⟩=some (.slice b2 c.words.length q2))
    (first|(simp [*,go_sem]))
    (first|(go_at_call 41;refine (l1From_any w.heap.size g (-1) 11  _ (by (repeat (first|with_reducible assumption|with_reducible refine DS.alloc ?_|with_reducible refine DS.drew ?_|((with_reducible refine DS.setCell ?_ ?_ ?_);rotate_left;(focus ((try simp);(try omega)));(focus ((try simp);(try omega)))))))  (by omega) (by omega) (by omega) (by omega)).mono ?_;rintro _ w3 ⟨⟨x3,rfl,_,_⟩,hdw3,hgw3⟩;have hBw3:Below w.heap.size w w3:=bG (by (repeat (with_reducible first|assumption|exact bR|refine bA ?_|refine bD ?_|((first|refine bS ?_ ?_|refine bBx ?_ ?_);rotate_left;focus (try simp) <;> (try omega))))) hgw3 (by omega);have hlw3:=hdw3.lt;have hsw3:=hgw3.size;(try (simp at hsw3));have:=gCell hgw3 (b:=w.heap.size) ((by ((try simp);(try omega)))) (by omega);have:=gFroz hgw3 (b:=w.heap.size) ((by ((try simp);(try omega)))) (by omega);have:w.heap.size<w3.heap.size:=(by omega);have:w.heap.size≤w3.heap.size:=(by omega);have:w.heap.size≤w3.heap.size+1:=(by omega);have:=gCell hgw3 (b:=w2.heap.size) ((by ((try simp);(try omega)))) (by omega);have:=gFroz hgw3 (b:=w2.heap.size) ((by ((try simp);(try omega)))) (by omega);have:w2.heap.size<w3.heap.size:=(by omega);have:w2.heap.size≤w3.heap.size:=(by omega);have:w2.heap.size≤w3.heap.size+1:=(by omega)))
  have hs3:=Seg.gr (Seg.drew (Seg.alloc hs (Nat.le_refl _) _)) hgw3 (by simp) (fun ad e=>by have:=hlo ad e;omega)
  have ho3:=(World.ownsRow.drew (World.ownsRow.alloc HO.out _)).kept hgw3 (.inr (own_ne HO.out (by omega)))
  go_wp2
  refine bodyPost_ret (v:=.tuple #[.agg #[.int .i64 c.cap,.int .i64 c.sent,.int .i64 c.got,.int .i64 c.fin,.slice a2 c.cells.length p2,.slice b2 c.words.length q2],.int .i64 x3]) (by simp [results,Try.results11,go_sem, *]) rfl ⟨⟨c,a2,p2,_,x3,rfl,?_,hz,?_,hl1,hl2⟩,?_⟩
  · (refine Seg.more (B:=w3.heap.size) ?_ (by simp));(repeat (first|with_reducible exact hs3|with_reducible refine Seg.drew ?_|((with_reducible refine Seg.store ?_ ?_ _);rotate_left;(focus (intro ad e;have:=hlo ad e;(try dsimp only);omega)))))
  · (refine own_lo (lo:=w1.heap.size) ?_ (by omega));(repeat first|with_reducible exact ho3|with_reducible refine oAl ?_ _|with_reducible refine oDr ?_|((with_reducible first|refine own_store ?_ ?_ _|refine own_box ?_ ?_);rotate_left;focus first|(refine own_ne HO.out ?_;(try dsimp only);omega)|(refine own_ne' HO.out ?_;(try dsimp only);omega)))
  · (repeat (with_reducible first|assumption|exact bR|refine bA ?_|refine bD ?_|((first|refine bS ?_ ?_|refine bBx ?_ ?_);rotate_left;focus (try simp) <;> (try omega))))
end Go.Proofs.Ytikhaaccgoiaeaa
set_option linter.unusedSimpArgs false
set_option linter.unusedVariables false
namespace Go.Proofs.Ytikhaaccgoiaeaa
open Go.RowKit
set_option linter.unusedSimpArgs false
theorem big_any (n cap:Nat) (a:Option Addr) (w:World):Calls Try.prog 6 #[.slice a n cap] w fun r w'=>r=.returned (.bool (decide (4096<(n:Int))))∧w=w':=by
  go_enter Try.func6,Try.ntmps6
  go_wp2
  go_ret
  exact ⟨rfl,rfl⟩
theorem bDNl {w W:World} (h:Below w.heap.size w W) (n:Nat):Below w.heap.size w (W.drewN n):=⟨h.os,h.tape,h.output,h.size,h.block⟩
set_option maxRecDepth 100000 in
set_option maxHeartbeats 400000 in
theorem likeInts_any (l:List Int) (a a':Option Addr) (cap cap':Nat) (w:World) (h:Seg w w.heap.size a l.length 1 (intF l)) (h':Seg w w.heap.size a' l.length 1 (intF l)) (hm:l.length≤maxLen) :
    Calls Try.prog 16 #[.slice a l.length cap,.slice a' l.length cap'] w fun r w'=>r=.returned (.bool true)∧Below w.heap.size w w':=by
  unfold maxLen at hm
  have HS:=Lib.hid h
  have HS':=Lib.hid h'
  clear h h'
  go_enter Try.func16,Try.ntmps16
  go_wp2
  go_loopw [5] (fun i wr=>∃ k:Nat,k≤l.length∧i=.int .i64 k∧Below w.heap.size w wr) (fun i _=>l.length - (intOf i).toNat)
  case atStart=>exact ⟨0,Nat.zero_le _,rfl,Below.refl _ _⟩
  case round =>
    obtain ⟨k,hk,rfl,hB⟩:=hrel
    by_cases hlt:k<l.length
    · obtain h0|⟨b,o,rfl,hb,hc⟩:=HS.out
      · omega
      obtain h0|⟨b',o',rfl,hb',hc'⟩:=HS'.out
      · omega
      have c0:=(hB.cell (p:=⟨b,o+k*1+0,none⟩) hb).trans (hc k 0 hlt (by omega))
      have d0:=(hB.cell (p:=⟨b',o'+k*1+0,none⟩) hb').trans (hc' k 0 hlt (by omega))
      simp only [intF,Nat.add_zero,Nat.mul_one] at c0 d0
      clear hc hc'
      generalize l.getD k 0=x at c0 d0
      have hk0:(0:Int)≤(k:Int):=by omega
      have hk1:(k:Int)<(l.length:Int):=by omega
      go_wp2_with fail
      (try (go_quiet (fail)))
      go_wp2
      go_roundw
      case rel=>exact ⟨k+1,by omega,by go_num,by first|exact hB|exact bDNl hB _⟩
      case measure=>simp [intOf];omega
    · have:k=l.length:=by omega
      subst this
      go_wp2
      go_ret
      exact ⟨rfl,hB⟩
set_option maxRecDepth 100000 in
set_option maxHeartbeats 400000 in
theorem likeCells_any (cs:List C3) (a a':Option Addr) (cap cap':Nat) (w:World) (h:Seg w w.heap.size a cs.length 3 (cellF cs)) (h':Seg w w.heap.size a' cs.length 3 (cellF cs)) (hm:cs.length≤maxLen) :
    Calls Try.prog 50 #[.slice a cs.length cap,.slice a' cs.length cap'] w fun r w'=>r=.returned (.bool true)∧Below w.heap.size w w':=by
  unfold maxLen at hm
  have HS:=Lib.hid h
  have HS':=Lib.hid h'
  clear h h'
  go_enter Try.func50,Try.ntmps50
  go_wp2
  go_loopw [5] (fun i wr=>∃ k:Nat,k≤cs.length∧i=.int .i64 k∧Below w.heap.size w wr) (fun i _=>cs.length - (intOf i).toNat)
  case atStart=>exact ⟨0,Nat.zero_le _,rfl,Below.refl _ _⟩
  case round =>
    obtain ⟨k,hk,rfl,hB⟩:=hrel
    by_cases hlt:k<cs.length
    · obtain h0|⟨b,o,rfl,hb,hc⟩:=HS.out
      · omega
      obtain h0|⟨b',o',rfl,hb',hc'⟩:=HS'.out
      · omega
      have c0:=(hB.cell (p:=⟨b,o+k*3+0,none⟩) hb).trans (hc k 0 hlt (by omega))
      have c1:=(hB.cell (p:=⟨b,o+k*3+1,none⟩) hb).trans (hc k 1 hlt (by omega))
      have c2:=(hB.cell (p:=⟨b,o+k*3+2,none⟩) hb).trans (hc k 2 hlt (by omega))
      have d0:=(hB.cell (p:=⟨b',o'+k*3+0,none⟩) hb').trans (hc' k 0 hlt (by omega))
      have d1:=(hB.cell (p:=⟨b',o'+k*3+1,none⟩) hb').trans (hc' k 1 hlt (by omega))
      have d2:=(hB.cell (p:=⟨b',o'+k*3+2,none⟩) hb').trans (hc' k 2 hlt (by omega))
      simp only [cellF,C3.val,Nat.add_zero] at c0 c1 c2 d0 d1 d2
      clear hc hc'
      generalize hcg:cs.getD k ⟨0,0,0⟩=c at c0 c1 c2 d0 d1 d2
      have HC:=Lib.hid hcg
      clear hcg
      have hk0:(0:Int)≤(k:Int):=by omega
      have hk1:(k:Int)<(cs.length:Int):=by omega
      go_wp2_with fail
      (try (go_quiet (fail)))
      go_wp2
      go_roundw
      case rel=>exact ⟨k+1,by omega,by go_num,by first|exact hB|exact bDNl hB _⟩
      case measure=>simp [intOf];omega
    · have:k=cs.length:=by omega
      subst this
      go_wp2
      go_ret
      exact ⟨rfl,hB⟩
set_option maxRecDepth 100000 in
set_option maxHeartbeats 1000000 in
theorem likeChan_any (c:Ch) (a b a' b':Option Addr) (p q p' q':Nat) (w:World) (h1:Seg w w.heap.size a c.cells.length 3 (cellF c.cells)) (h2:Seg w w.heap.size b c.words.length 1 (intF c.words)) (h3:Seg w w.heap.size a' c.cells.length 3 (cellF c.cells)) (h4:Seg w w.heap.size b' c.words.length 1 (intF c.words)) (m1:c.cells.length≤maxLen) (m2:c.words.length≤maxLen) :
    Calls Try.prog 14 #[.agg #[.int .i64 c.cap,.int .i64 c.sent,.int .i64 c.got,.int .i64 c.fin,.slice a c.cells.length p,.slice b c.words.length q],.agg #[.int .i64 c.cap,.int .i64 c.sent,.int .i64 c.got,.int .i64 c.fin,.slice a' c.cells.length p',.slice b' c.words.length q']] w fun r w'=>r=.returned (.bool true)∧Below w.heap.size w w':=by
  have H1:=Lib.hid h1
  have H2:=Lib.hid h2
  have H3:=Lib.hid h3
  have H4:=Lib.hid h4
  have M1:=Lib.hid m1
  have M2:=Lib.hid m2
  clear h1 h2 h3 h4 m1 m2
  go_enter Try.func14,Try.ntmps14
  go_wp2_with fail;refine bHit w (by (repeat (with_reducible first|assumption|exact bR|refine bA ?_|refine bD ?_|((first|refine bS ?_ ?_|refine bBx ?_ ?_);rotate_left;focus (try simp) <;> (try omega))))) fun bb=>?_;refine (likeCells_any c.cells a a' p p' _ ((H1.out.below bb).more bb.size) ((H3.out.below bb).more bb.size) M1.out).mono ?_;rintro _ w1 ⟨rfl,hbw1⟩;have hCw1:Below w.heap.size w w1:=bT bb hbw1;have hsw1:=hbw1.size;(try simp at hsw1);have zz:=And.intro (fun o=>hbw1.cell (p:=⟨w.heap.size+1,o,none⟩) (by (try simp) <;> omega)) <| And.intro (fun o=>hbw1.frozen (p:=⟨w.heap.size+1,o,none⟩) (by (try simp) <;> omega)) <| And.intro (fun o=>hbw1.cell (p:=⟨w.heap.size,o,none⟩) (by (try simp) <;> omega)) <| fun o=>hbw1.frozen (p:=⟨w.heap.size,o,none⟩) (by (try simp) <;> omega);(try simp [go_sem] at zz);(try clear x_wp f_wp);(try clear x_w f_w);obtain ⟨x_wp,f_wp,x_w,f_w⟩:=zz;(try clear l_wp);have l_wp:w.heap.size+1<w1.heap.size:=(by omega);(try clear l_w);have l_w:w.heap.size<w1.heap.size:=(by omega);clear hbw1 bb
  go_wp2_with fail;refine bHit w (by (repeat (with_reducible first|assumption|exact bR|refine bA ?_|refine bD ?_|((first|refine bS ?_ ?_|refine bBx ?_ ?_);rotate_left;focus (try simp) <;> (try omega))))) fun bb=>?_;refine (likeInts_any c.words b b' q q' _ ((H2.out.below bb).more bb.size) ((H4.out.below bb).more bb.size) M2.out).mono ?_;rintro _ w2 ⟨rfl,hbw2⟩;have hCw2:Below w.heap.size w w2:=bT bb hbw2;have hsw2:=hbw2.size;(try simp at hsw2);have zz:=And.intro (fun o=>hbw2.cell (p:=⟨w.heap.size+1,o,none⟩) (by (try simp) <;> omega)) <| And.intro (fun o=>hbw2.frozen (p:=⟨w.heap.size+1,o,none⟩) (by (try simp) <;> omega)) <| And.intro (fun o=>hbw2.cell (p:=⟨w.heap.size,o,none⟩) (by (try simp) <;> omega)) <| fun o=>hbw2.frozen (p:=⟨w.heap.size,o,none⟩) (by (try simp) <;> omega);(first|simp [go_sem,x_wp,f_wp,x_w,f_w,l_w,l_wp] at zz|simp [go_sem,x_wp,x_w,l_w,l_wp] at zz|simp [go_sem] at zz|skip);(try clear x_wp f_wp);(try clear x_w f_w);obtain ⟨x_wp,f_wp,x_w,f_w⟩:=zz;(try clear l_wp);have l_wp:w.heap.size+1<w2.heap.size:=(by omega);(try clear l_w);have l_w:w.heap.size<w2.heap.size:=(by omega);clear hbw2 bb
  go_wp2
  go_ret
  exact ⟨rfl,by (repeat (with_reducible first|assumption|exact bR|refine bA ?_|refine bD ?_|((first|refine bS ?_ ?_|refine bBx ?_ ?_);rotate_left;focus (try simp) <;> (try omega))))⟩
end Go.Proofs.Ytikhaaccgoiaeaa
set_option linter.unusedSimpArgs false
set_option linter.unusedVariables false
namespace Go.Proofs.Ytikhaaccgoiaeaa
open Go.RowKit
set_option maxHeartbeats 400000 in
theorem inRange_any (n m:Int) (w:World):Calls Try.prog 42 #[.int .i64 n,.int .i64 m] w fun e w'=>e=.returned (.bool (inB n 0 m))∧w=w':=by
  go_enter Try.func42,Try.ntmps42
  go_wp2
  all_goals go_ret
  · exact ⟨ret_bool (inB_lo ‹_›),rfl⟩
  · exact ⟨ret_bool (inB_no (.inl ‹_›)).symm,rfl⟩
def Named (n:Int) (e:Ending):Prop:=∃ s:ByteArray,e=.returned (.string s)∧s.toList.isEmpty=!(inB n 0 10)
theorem named_yes {n:Int} (s:ByteArray) (hs:s.data.size≠0) (h1:0≤n) (h2:n≤10):Named n (.returned (.string s)):=⟨_,rfl,by
  obtain ⟨⟨l⟩⟩:=s
  rw [inB_yes h1 h2]
  cases l with
  | nil=>simp at hs
  | cons a l=>simp⟩
theorem named_no {n:Int} (h:n<0∨10<n):Named n (.returned (.string ⟨#[]⟩)):=⟨_,rfl,by rw [inB_no h];simp⟩
set_option maxHeartbeats 400000 in
theorem string_any (n:Int) (w:World):Calls Try.prog 73 #[.int .i64 n] w fun e w'=>Named n e∧w=w':=by
  by_cases h:0≤n∧n≤10
  · have hn:n=0∨n=1∨n=2∨n=3∨n=4∨n=5∨n=6∨n=7∨n=8∨n=9∨n=10:=by omega
    clear h
    rcases hn with rfl|rfl|rfl|rfl|rfl|rfl|rfl|rfl|rfl|rfl|rfl
    all_goals
      go_enter Try.func73,Try.ntmps73
      go_wp2
      go_ret
      exact ⟨named_yes _ (by decide) (by omega) (by omega),rfl⟩
  · have h0:(n == 0)=false:=by simp;omega
    have h1:(n == 1)=false:=by simp;omega
    have h2:(n == 2)=false:=by simp;omega
    have h3:(n == 3)=false:=by simp;omega
    have h4:(n == 4)=false:=by simp;omega
    have h5:(n == 5)=false:=by simp;omega
    have h6:(n == 6)=false:=by simp;omega
    have h7:(n == 7)=false:=by simp;omega
    have h8:(n == 8)=false:=by simp;omega
    have h9:(n == 9)=false:=by simp;omega
    have h10:(n == 10)=false:=by simp;omega
    have H:=Lib.hid h
    clear h
    go_enter Try.func73,Try.ntmps73
    go_wp2
    go_ret
    exact ⟨named_no (by have:=H.out;omega),rfl⟩
set_option maxHeartbeats 400000 in
theorem cellOk_any (s e t:Int) (w:World):Calls Try.prog 53 #[.agg #[.int .i64 s,.int .i64 e,.int .i64 t]] w fun r w'=>r=.returned (.bool (cellB s e t))∧Below w.heap.size w w':=by
  go_enter Try.func53,Try.ntmps53
  go_wp2_with (first|(go_at_call 73;refine (string_any _ _).mono ?_;rintro r1 w1 ⟨⟨s1,rfl,hs⟩,rfl⟩)|(go_at_call 42;refine (inRange_any _ _ _).mono ?_;rintro _ _ ⟨rfl,rfl⟩))
  all_goals go_ret
  all_goals refine ⟨ret_bool ?_,by (repeat (with_reducible first|assumption|exact bR|refine bA ?_|refine bD ?_|((first|refine bS ?_ ?_|refine bBx ?_ ?_);rotate_left;focus (try simp) <;> (try omega))))⟩
  · exact cellB_3 ‹_› ‹_›
  · exact cellB_2 ‹_›
  · exact cellB_1 ‹_›
end Go.Proofs.Ytikhaaccgoiaeaa
set_option linter.unusedSimpArgs false
set_option linter.unusedVariables false
namespace Go.Proofs.Ytikhaaccgoiaeaa
open Go.RowKit
set_option maxRecDepth 100000 in
theorem cutI (n:Nat) (hn:n≤40) (g:Nat) (W:World):(Instr.sliceAt 73 (.pointer (some ⟨g,0,none⟩)) none (some (.int .i64 n)) (some (.int .i64 n))).run Try.prog W=.ok (.slice (some ⟨g,0,none⟩) n n) W:=by
  have hl:Try.prog.arrayLen 73=40:=by kernel_rfl
  rw [run_sliceAt_array_hm (P:=Try.prog) W 73 ⟨g,0,none⟩ Try.underlying73 .i64 .i64 n n (by omega) (by omega) (by omega)]
  simp [go_sem,slicedAt]
set_option maxRecDepth 100000 in
theorem cutC (n:Nat) (hn:n≤40) (g:Nat) (W:World):(Instr.sliceAt 64 (.pointer (some ⟨g,0,none⟩)) none (some (.int .i64 n)) (some (.int .i64 n))).run Try.prog W=.ok (.slice (some ⟨g,0,none⟩) n n) W:=by
  have hl:Try.prog.arrayLen 64=40:=by kernel_rfl
  rw [run_sliceAt_array_hm (P:=Try.prog) W 64 ⟨g,0,none⟩ Try.underlying64 .i64 .i64 n n (by omega) (by omega) (by omega)]
  simp [go_sem,slicedAt]
set_option maxRecDepth 100000 in
theorem cutI_any (n:Nat) (hn:n≤40) (g:Nat) (w:World):Calls Try.prog 52 #[.pointer (some ⟨g,0,none⟩),.int .i64 n] w fun r w'=>r=.returned (.slice (some ⟨g,0,none⟩) n n)∧w=w':=by
  have hcut:=cutI n hn g
  go_enter Try.func52,Try.ntmps52
  go_wp2
  go_ret
  exact ⟨rfl,rfl⟩
set_option maxRecDepth 100000 in
theorem cutC_any (n:Nat) (hn:n≤40) (g:Nat) (w:World):Calls Try.prog 43 #[.pointer (some ⟨g,0,none⟩),.int .i64 n] w fun r w'=>r=.returned (.slice (some ⟨g,0,none⟩) n n)∧w=w':=by
  have hcut:=cutC n hn g
  go_enter Try.func43,Try.ntmps43
  go_wp2
  go_ret
  exact ⟨rfl,rfl⟩
def wordsB (l:List Int):Bool:=decide (l.length≤80) && l.all (fun x=>inB x 0 2)
def cellsB (n:Nat) (cs:List C3):Bool:=decide (cs.length=40) && cs.all (cellFits n)
def countB (c:Ch):Bool:=inB c.sent 0 40 && (inB c.got 0 40 && inB c.fin 0 40)
theorem chanOk_parts (c:Ch):chanOk c=(inB c.cap 0 4 && (countB c && (wordsB c.words && cellsB c.words.length c.cells))):=by
  unfold chanOk chanHead countB wordsB cellsB
  cases inB c.cap 0 4 <;> cases inB c.sent 0 40 <;> cases inB c.got 0 40 <;> cases inB c.fin 0 40 <;> cases decide (c.cells.length=40) <;> cases decide (c.words.length≤80) <;> cases c.cells.all (cellFits c.words.length) <;> cases c.words.all (fun x=>inB x 0 2) <;> rfl
set_option maxRecDepth 100000 in
theorem countersOk_any (c:Ch) (v1 v2:Value) (w:World) :
    Calls Try.prog 44 #[.agg #[.int .i64 c.cap,.int .i64 c.sent,.int .i64 c.got,.int .i64 c.fin,v1,v2]] w fun r w'=>r=.returned (.bool (countB c))∧Below w.heap.size w w':=by
  go_enter Try.func44,Try.ntmps44
  go_wp2_with (go_at_call 42;refine (inRange_any _ _ _).mono ?_;rintro _ _ ⟨rfl,rfl⟩)
  all_goals go_ret
  all_goals exact ⟨ret_bool (by simp [countB, *]),by (repeat (with_reducible first|assumption|exact bR|refine bA ?_|refine bD ?_|((first|refine bS ?_ ?_|refine bBx ?_ ?_);rotate_left;focus (try simp) <;> (try omega))))⟩
theorem wordsB_bad {l:List Int} {k:Nat} {x:Int} (hk:k<l.length) (hc:l.getD k 0=x) (h:inB x 0 2=false):false=wordsB l:=by
  have:l.all (fun x=>inB x 0 2)=false:=by
    rw [List.all_eq_false]
    refine ⟨l[k],List.getElem_mem hk,?_⟩
    rw [← hc] at h
    simpa [List.getD,List.getElem?_eq_getElem hk] using h
  simp [wordsB,this]
theorem wordsB_end {l:List Int} (h:l.length≤80) (h2:(l.take l.length).all (fun x=>inB x 0 2)=true):true=wordsB l:=by
  rw [List.take_length] at h2
  simp only [wordsB,h2,h,decide_true];rfl
set_option maxRecDepth 100000 in
set_option maxHeartbeats 400000 in
theorem wordsOk_any (l:List Int) (a:Option Addr) (p:Nat) (w:World) (h:Seg w w.heap.size a l.length 1 (intF l)) (hm:l.length≤maxLen) :
    Calls Try.prog 45 #[.slice a l.length p] w fun r w'=>r=.returned (.bool (wordsB l))∧Below w.heap.size w w':=by
  unfold maxLen at hm
  by_cases hlen:80<l.length
  · have hV:Hid (false=wordsB l):=by simp [wordsB,Hid];omega
    go_enter Try.func45,Try.ntmps45
    go_wp2
    go_ret
    exact ⟨ret_bool hV.out,Below.refl _ _⟩
  · have hd:decide (80<(l.length:Int))=false:=by simp;omega
    have hle:l.length≤80:=by omega
    clear hlen
    have HS:=Lib.hid h
    clear h
    go_enter Try.func45,Try.ntmps45
    go_wp2
    go_loopw [10] (fun i wr=>∃ k:Nat,k≤l.length∧i=.int .i64 k∧Hid ((l.take k).all (fun x=>inB x 0 2)=true)∧Below w.heap.size w wr) (fun i _=>l.length - (intOf i).toNat)
    case atStart=>exact ⟨0,Nat.zero_le _,rfl,rfl,Below.refl _ _⟩
    case round =>
      obtain ⟨k,hk,rfl,hall,hB⟩:=hrel
      by_cases hlt:k<l.length
      · obtain h0|⟨b,o,rfl,hb,hc⟩:=HS.out
        · omega
        have c0:=(hB.cell (p:=⟨b,o+k*1+0,none⟩) hb).trans (hc k 0 hlt (by omega))
        simp only [intF,Nat.add_zero,Nat.mul_one] at c0
        clear hc
        generalize hcg:l.getD k 0=x at c0
        have HC:=Lib.hid hcg
        clear hcg
        go_wp2_with (go_at_call 42;refine (inRange_any _ _ _).mono ?_;rintro _ _ ⟨rfl,rfl⟩)
        · go_ret
          exact ⟨ret_bool (wordsB_bad hlt HC.out (not_true ‹_›)),hB⟩
        · go_roundw
          case rel=>exact ⟨k+1,by omega,by go_num,words_snoc hlt HC.out hall.out (not_false ‹_›),hB⟩
          case measure=>simp [intOf];omega
      · have:k=l.length:=by omega
        subst this
        go_wp2
        go_ret
        exact ⟨ret_bool (wordsB_end hle hall.out),hB⟩
theorem cellsB_bad {n:Nat} {cs:List C3} {k:Nat} {c:C3} (hk:k<cs.length) (hc:cs.getD k ⟨0,0,0⟩=c) (h:cellFits n c=false):false=cellsB n cs:=by
  have:cs.all (cellFits n)=false:=by
    rw [List.all_eq_false]
    refine ⟨cs[k],List.getElem_mem hk,?_⟩
    rw [← hc] at h
    simpa [List.getD,List.getElem?_eq_getElem hk] using h
  simp [cellsB,this]
theorem cellsB_end {n:Nat} {cs:List C3} (h:cs.length=40) (h2:(cs.take cs.length).all (cellFits n)=true):true=cellsB n cs:=by
  rw [List.take_length] at h2
  simp only [cellsB,h2,h,decide_true];rfl
theorem cellsB_snoc {n:Nat} {cs:List C3} {k:Nat} {c:C3} (hk:k<cs.length) (hc:cs.getD k ⟨0,0,0⟩=c) (h:(cs.take k).all (cellFits n)=true) (h1:cellFits n c=true):(cs.take (k+1)).all (cellFits n)=true:=by
  rw [take_snocC cs k hk,hc,List.all_append,h];simp [h1]
set_option maxRecDepth 100000 in
set_option maxHeartbeats 400000 in
theorem cellsOk_any (n:Nat) (cs:List C3) (a:Option Addr) (p:Nat) (w:World) (h:Seg w w.heap.size a cs.length 3 (cellF cs)) (hm:cs.length≤maxLen) :
    Calls Try.prog 46 #[.slice a cs.length p,.int .i64 n] w fun r w'=>r=.returned (.bool (cellsB n cs))∧Below w.heap.size w w':=by
  unfold maxLen at hm
  by_cases hlen:cs.length=40
  · have hd:((cs.length:Int) != 40)=false:=by simp;omega
    have hle:cs.length≤40:=by omega
    have HL:=Lib.hid hlen
    clear hlen
    have HS:=Lib.hid h
    clear h
    go_enter Try.func46,Try.ntmps46
    go_wp2
    go_loopw [12] (fun i wr=>∃ k:Nat,k≤cs.length∧i=.int .i64 k∧Hid ((cs.take k).all (cellFits n)=true)∧Below w.heap.size w wr) (fun i _=>cs.length - (intOf i).toNat)
    case atStart=>exact ⟨0,Nat.zero_le _,rfl,rfl,Below.refl _ _⟩
    case round =>
      obtain ⟨k,hk,rfl,hall,hB⟩:=hrel
      have hs:=hB.size
      by_cases hlt:k<cs.length
      · obtain h0|⟨b,o,rfl,hb,hc⟩:=HS.out
        · omega
        have c0:=(hB.cell (p:=⟨b,o+k*3+0,none⟩) hb).trans (hc k 0 hlt (by omega))
        have c1:=(hB.cell (p:=⟨b,o+k*3+1,none⟩) hb).trans (hc k 1 hlt (by omega))
        have c2:=(hB.cell (p:=⟨b,o+k*3+2,none⟩) hb).trans (hc k 2 hlt (by omega))
        simp only [cellF,C3.val,Nat.add_zero] at c0 c1 c2
        clear hc
        generalize hcg:cs.getD k ⟨0,0,0⟩=c at c0 c1 c2
        have HC:=Lib.hid hcg
        clear hcg
        go_wp2_with (go_at_call 53;refine (cellOk_any _ _ _ _).mono ?_;rintro _ w1 ⟨rfl,hbw1⟩;have hBw1:Below w.heap.size w w1:=bT (by (repeat (with_reducible first|assumption|exact bR|refine bA ?_|refine bD ?_|((first|refine bS ?_ ?_|refine bBx ?_ ?_);rotate_left;focus (try simp) <;> (try omega))))) hbw1;have hsw1:=hbw1.size;(try (simp at hsw1));have:=fun o=>hbw1.cell (p:=⟨wr.heap.size,o,none⟩) (by ((try simp);(try omega)));have:=fun o=>hbw1.frozen (p:=⟨wr.heap.size,o,none⟩) (by ((try simp);(try omega)));have:wr.heap.size<w1.heap.size:=(by omega);have:wr.heap.size≤w1.heap.size:=(by omega);have:wr.heap.size≤w1.heap.size+1:=(by omega))
        all_goals first
          | (go_ret;exact ⟨ret_bool (cellsB_bad hlt HC.out (by simp_all [cellFits,okC])),by (repeat (with_reducible first|assumption|exact bR|refine bA ?_|refine bD ?_|((first|refine bS ?_ ?_|refine bBx ?_ ?_);rotate_left;focus (try simp) <;> (try omega))))⟩)
          | (go_roundw
             case rel=>exact ⟨k+1,by omega,by go_num,cellsB_snoc hlt HC.out hall.out (by simp_all [cellFits,okC]),by (repeat (with_reducible first|assumption|exact bR|refine bA ?_|refine bD ?_|((first|refine bS ?_ ?_|refine bBx ?_ ?_);rotate_left;focus (try simp) <;> (try omega))))⟩
             case measure=>simp [intOf];omega)
      · have:k=cs.length:=by omega
        subst this
        go_wp2
        go_ret
        exact ⟨ret_bool (cellsB_end HL.out hall.out),hB⟩
  · have hd:((cs.length:Int) != 40)=true:=by simp;omega
    have hV:Hid (false=cellsB n cs):=by simp [cellsB,Hid,hlen]
    clear hlen
    go_enter Try.func46,Try.ntmps46
    go_wp2
    go_ret
    exact ⟨ret_bool hV.out,Below.refl _ _⟩
set_option maxRecDepth 100000 in
set_option maxHeartbeats 400000 in
theorem chanOk_any (c:Ch) (a b:Option Addr) (p q:Nat) (w:World) (h1:Seg w w.heap.size a c.cells.length 3 (cellF c.cells)) (h2:Seg w w.heap.size b c.words.length 1 (intF c.words)) (m1:c.cells.length≤maxLen) (m2:c.words.length≤maxLen) :
    Calls Try.prog 12 #[.agg #[.int .i64 c.cap,.int .i64 c.sent,.int .i64 c.got,.int .i64 c.fin,.slice a c.cells.length p,.slice b c.words.length q]] w fun r w'=>r=.returned (.bool (chanOk c))∧Below w.heap.size w w':=by
  rw [chanOk_parts]
  have H1:=Lib.hid h1
  have H2:=Lib.hid h2
  have M1:=Lib.hid m1
  have M2:=Lib.hid m2
  clear h1 h2 m1 m2
  go_enter Try.func12,Try.ntmps12
  go_wp2_with (first|(go_at_call 42;refine (inRange_any _ _ _).mono ?_;rintro _ _ ⟨rfl,rfl⟩)|(go_at_call 44;refine (countersOk_any c _ _ _).mono ?_;rintro _ w1 ⟨rfl,hbw1⟩;have hBw1:Below w.heap.size w w1:=bT (by (repeat (with_reducible first|assumption|exact bR|refine bA ?_|refine bD ?_|((first|refine bS ?_ ?_|refine bBx ?_ ?_);rotate_left;focus (try simp) <;> (try omega))))) hbw1;have hsw1:=hbw1.size;(try (simp at hsw1));have:=fun o=>hbw1.cell (p:=⟨w.heap.size,o,none⟩) (by ((try simp);(try omega)));have:=fun o=>hbw1.frozen (p:=⟨w.heap.size,o,none⟩) (by ((try simp);(try omega)));have:w.heap.size<w1.heap.size:=(by omega);have:w.heap.size≤w1.heap.size:=(by omega);have:w.heap.size≤w1.heap.size+1:=(by omega))|(go_at_call 45;refine (wordsOk_any c.words b q _ ((H2.out.below (by (repeat (with_reducible first|assumption|exact bR|refine bA ?_|refine bD ?_|((first|refine bS ?_ ?_|refine bBx ?_ ?_);rotate_left;focus (try simp) <;> (try omega)))))).more (by (try simp);omega)) M2.out).mono ?_;rintro _ w2 ⟨rfl,hb2⟩;have hB2:Below w.heap.size w w2:=bT (by (repeat (with_reducible first|assumption|exact bR|refine bA ?_|refine bD ?_|((first|refine bS ?_ ?_|refine bBx ?_ ?_);rotate_left;focus (try simp) <;> (try omega))))) hb2;have hs2:=hb2.size;have:=fun o=>hb2.cell (p:=⟨w.heap.size,o,none⟩) (by (try simp);omega))|(go_at_call 46;refine (cellsOk_any c.words.length c.cells a p _ ((H1.out.below (by (repeat (with_reducible first|assumption|exact bR|refine bA ?_|refine bD ?_|((first|refine bS ?_ ?_|refine bBx ?_ ?_);rotate_left;focus (try simp) <;> (try omega)))))).more (by (try simp);omega)) M1.out).mono ?_;rintro _ w3 ⟨rfl,hb3⟩;have hB3:Below w.heap.size w w3:=bT (by (repeat (with_reducible first|assumption|exact bR|refine bA ?_|refine bD ?_|((first|refine bS ?_ ?_|refine bBx ?_ ?_);rotate_left;focus (try simp) <;> (try omega))))) hb3))
  all_goals go_ret
  all_goals exact ⟨ret_bool (by simp [*]),by (repeat (with_reducible first|assumption|exact bR|refine bA ?_|refine bD ?_|((first|refine bS ?_ ?_|refine bBx ?_ ?_);rotate_left;focus (try simp) <;> (try omega))))⟩
end Go.Proofs.Ytikhaaccgoiaeaa
set_option linter.unusedSimpArgs false
set_option linter.unusedVariables false
namespace Go.Proofs.Ytikhaaccgoiaeaa
open Go.RowKit
theorem news1 (w:World) (x:Value) (t:TypeId):∀ j u,[x][j]?=some u→(w.alloc (.cells #[x] t)).cell? ((⟨w.heap.size,0,none⟩:Addr).add j)=some u:=by
  intro j u h
  have hj:j<1:=(List.getElem?_eq_some_iff.1 h).1
  have:j=0:=by omega
  subst this
  simp [Addr.add] at h ⊢;exact h
theorem atFrom_snoc (st:Int) (c:C3):∀ (l:List C3) (n:Nat),atFrom st n (l ++ [c])=atFrom st n l ++ (if c.s == st then [((n+l.length:Nat):Int)] else [])
  | [],n=>by simp [atFrom]
  | d :: l,n=>by
    have h:=atFrom_snoc st c l (n+1)
    have e:n+1+l.length=n+(d :: l).length:=by simp;omega
    rw [e] at h
    simp only [List.cons_append,atFrom]
    split <;> simp [h]
theorem atFrom_len (st:Int):∀ (l:List C3) (n:Nat),(atFrom st n l).length≤l.length
  | [],n=>by simp [atFrom]
  | d :: l,n=>by
    have h:=atFrom_len st l (n+1)
    simp only [atFrom]
    split <;> simp <;> omega
def atTo (cells:List C3) (st:Int) (k:Nat):List Int:=atFrom st 0 (cells.take k)
theorem atTo_0 (cells:List C3) (st:Int):atTo cells st 0=[]:=by simp [atTo,atFrom]
theorem atTo_yes {cells:List C3} {st:Int} {k:Nat} {c:C3} (hk:k<cells.length) (hc:cells.getD k ⟨0,0,0⟩=c) (h:(c.s == st)=true):atTo cells st (k+1)=atTo cells st k ++ [(k:Int)]:=by
  unfold atTo
  rw [take_snocC cells k hk,hc,atFrom_snoc,if_pos h,List.length_take_of_le (by omega)];simp
theorem atTo_no {cells:List C3} {st:Int} {k:Nat} {c:C3} (hk:k<cells.length) (hc:cells.getD k ⟨0,0,0⟩=c) (h:(c.s == st)=false):atTo cells st (k+1)=atTo cells st k:=by
  unfold atTo
  rw [take_snocC cells k hk,hc,atFrom_snoc,h];simp
theorem atTo_end (c:Ch) (st:Int):atTo c.cells st c.cells.length=atS c st:=by simp [atTo,atS]
theorem atTo_len (cells:List C3) (st:Int) (k:Nat):(atTo cells st k).length≤k:=by
  have h:=atFrom_len st (cells.take k) 0
  have:=List.length_take_le k cells
  unfold atTo;omega
set_option maxRecDepth 100000 in
set_option maxHeartbeats 1000000 in
theorem l2At_any (c:Ch) (st:Int) (a b:Option Addr) (p q:Nat) (w:World) (h1:Seg w w.heap.size a c.cells.length 3 (cellF c.cells)) (hm:c.cells.length≤1099511627776) :
    Calls Try.prog 51 #[.agg #[.int .i64 c.cap,.int .i64 c.sent,.int .i64 c.got,.int .i64 c.fin,.slice a c.cells.length p,.slice b c.words.length q],.int .i64 st] w fun r w'=>(∃ v,r=.returned v∧OInts w' w.heap.size v (atS c st))∧Below w.heap.size w w':=by
  obtain ⟨i0,hi0,hz0,hz1,hz2⟩:=info_parts infoInt
  have HE:=Lib.hid (atTo_end c st)
  obtain ⟨cap,sent,got,fin,cells,words⟩:=c
  simp only at *
  have H1:=Lib.hid h1
  clear h1
  go_enter Try.func51,Try.ntmps51
  go_wp2
  go_loopw [5,6] (fun v i wr=>∃ k:Nat,k≤cells.length∧i=.int .i64 k∧OInts wr (w.heap.size+1) v (atTo cells st k)∧wr.cell? ⟨w.heap.size,4,none⟩=some (.slice a cells.length p)∧w.heap.size<wr.heap.size∧Below w.heap.size w wr) (fun _ i _=>cells.length - (intOf i).toNat)
  case atStart=>exact ⟨0,Nat.zero_le _,rfl,by rw [atTo_0];exact own_made_at _ _ _ _ _ (by simp) (by simp),by simp,by (simp;try omega),by (repeat (with_reducible first|assumption|exact bR|refine bA ?_|refine bD ?_|((first|refine bS ?_ ?_|refine bBx ?_ ?_);rotate_left;focus (try simp) <;> (try omega))))⟩
  case round =>
    obtain ⟨k,hk,rfl,hown,x4,hlt1,hB⟩:=hrel
    by_cases hlt:k<cells.length
    · obtain h0|⟨bb,bo,rfl,hb,hc⟩:=H1.out
      · omega
      have c0:=(hB.cell (p:=⟨bb,bo+k*3+0,none⟩) hb).trans (hc k 0 hlt (by omega))
      simp only [cellF,C3.val,Nat.add_zero] at c0
      clear hc
      generalize hcg:cells.getD k ⟨0,0,0⟩=c at c0
      have HC:=Lib.hid hcg
      clear hcg
      have hle:=atTo_len cells st k
      have hk0:(0:Int)≤(k:Int):=by omega
      have hk1:(k:Int)<(cells.length:Int):=by omega
      go_wp2_with (at_builtin;refine wpList_append_own _ rfl _ _ 25 rfl (w.heap.size+1) 2 i0 _ 1 8 Try.underlying25 hi0 hz0 hz1 hz2 rfl (by decide) _ _ _ rfl (hown.alloc _) ⟨wr.heap.size,0,none⟩ 1 1 [.int .i64 k] rfl rfl (news1 _ _ _) (by simp [Value.oneCell']) ?c3 ?c4 ?c5 ?_)
      case c3=>unfold maxLen;omega
      case c4=>omega
      case c5=>simp;omega
      · intro v4 w4 hown4 hg _
        have hne:=own_ne hown (b:=w.heap.size) (by omega)
        have hx4:w4.cell? ⟨w.heap.size,4,none⟩=some (.slice (some ⟨bb,bo,none⟩) cells.length p) :=
          (World.cell?_of_block (hg.block w.heap.size (by simp;omega) (fun e=>hne e.symm))).trans (cell_alloc_of x4)
        have hs4:=hg.size
        simp at hs4
        have hB4:Below w.heap.size w w4:=bOwn (by (repeat (with_reducible first|assumption|exact bR|refine bA ?_|refine bD ?_|((first|refine bS ?_ ?_|refine bBx ?_ ?_);rotate_left;focus (try simp) <;> (try omega))))) hg (by simp;omega) (fun q hq=>by have:=(hown.lt q hq).1;omega)
        have ht:(c.s == st)=true:=by assumption
        have hown5:OInts w4 (w.heap.size+1) v4 (atTo cells st (k+1)):=by
          rw [atTo_yes hlt HC.out ht];exact OInts.snoc hown4
        clear hown4 hg hne x4 hown
        go_wp2
        go_roundw
        case rel=>exact ⟨k+1,by omega,by go_num,hown5,hx4,by omega,hB4⟩
        case measure=>simp [intOf];omega
      · go_roundw
        case rel=>exact ⟨k+1,by omega,by go_num,by rw [atTo_no hlt HC.out ‹_›];exact hown,x4,hlt1,hB⟩
        case measure=>simp [intOf];omega
    · have:k=cells.length:=by omega
      subst this
      go_wp2
      go_ret
      exact ⟨⟨_,rfl,own_lo (HE.out ▸ hown) (by omega)⟩,hB⟩
set_option maxRecDepth 100000 in
set_option maxHeartbeats 1000000 in
theorem sWaitingIn_any (c:Ch) (st:Int) (a b:Option Addr) (p q:Nat) (w:World) (h1:Seg w w.heap.size a c.cells.length 3 (cellF c.cells)) (h2:Seg w w.heap.size b c.words.length 1 (intF c.words)) (hm:c.cells.length≤1099511627776) :
    Calls Try.prog 20 #[.agg #[.int .i64 c.cap,.int .i64 c.sent,.int .i64 c.got,.int .i64 c.fin,.slice a c.cells.length p,.slice b c.words.length q],.int .i64 st] w fun r w'=>(∃ v,r=.returned v∧OInts w' w.heap.size v (waitingIn c st))∧Below w.heap.size w w':=by
  have H1:=Lib.hid h1
  have H2:=Lib.hid h2
  clear h1 h2
  by_cases hc:chanOk c=true
  · have HV:Hid (waitingIn c st=atS c st):=by simp [waitingIn,hc,Hid]
    go_enter Try.func20,Try.ntmps20
    go_wp2_with fail
    refine (sChanOk_any c a b p q _ (((H1.out).below (by (repeat (with_reducible first|assumption|exact bR|refine bA ?_|refine bD ?_|((first|refine bS ?_ ?_|refine bBx ?_ ?_);rotate_left;focus (try simp) <;> (try omega)))))).more (by simp)) (((H2.out).below (by (repeat (with_reducible first|assumption|exact bR|refine bA ?_|refine bD ?_|((first|refine bS ?_ ?_|refine bBx ?_ ?_);rotate_left;focus (try simp) <;> (try omega)))))).more (by simp))).mono ?_
    rintro _ w1 ⟨rfl,hb1⟩
    have hB1:Below w.heap.size w w1:=bT (by (repeat (with_reducible first|assumption|exact bR|refine bA ?_|refine bD ?_|((first|refine bS ?_ ?_|refine bBx ?_ ?_);rotate_left;focus (try simp) <;> (try omega))))) hb1
    have hs1:=hb1.size
    simp at hs1
    have:=fun o=>hb1.cell (p:=⟨w.heap.size,o,none⟩) (by simp)
    go_wp2_with fail
    refine (l2At_any c st a b p q _ (((H1.out).below hB1).more (by omega)) hm).mono ?_
    rintro _ w2 ⟨⟨v2,rfl,hown2⟩,hb2⟩
    have hB2:Below w.heap.size w w2:=bT (by (repeat (with_reducible first|assumption|exact bR|refine bA ?_|refine bD ?_|((first|refine bS ?_ ?_|refine bBx ?_ ?_);rotate_left;focus (try simp) <;> (try omega))))) hb2
    go_wp2
    go_ret
    exact ⟨⟨_,rfl,own_lo (HV.out ▸ hown2) (by omega)⟩,hB2⟩
  · have HV:Hid (waitingIn c st=[]):=by simp [waitingIn,hc,Hid]
    go_enter Try.func20,Try.ntmps20
    go_wp2_with fail
    refine (sChanOk_any c a b p q _ (((H1.out).below (by (repeat (with_reducible first|assumption|exact bR|refine bA ?_|refine bD ?_|((first|refine bS ?_ ?_|refine bBx ?_ ?_);rotate_left;focus (try simp) <;> (try omega)))))).more (by simp)) (((H2.out).below (by (repeat (with_reducible first|assumption|exact bR|refine bA ?_|refine bD ?_|((first|refine bS ?_ ?_|refine bBx ?_ ?_);rotate_left;focus (try simp) <;> (try omega)))))).more (by simp))).mono ?_
    rintro _ w1 ⟨rfl,hb1⟩
    have hB1:Below w.heap.size w w1:=bT (by (repeat (with_reducible first|assumption|exact bR|refine bA ?_|refine bD ?_|((first|refine bS ?_ ?_|refine bBx ?_ ?_);rotate_left;focus (try simp) <;> (try omega))))) hb1
    have hs1:=hb1.size
    simp at hs1
    go_wp2
    go_ret
    refine ⟨⟨_,rfl,?_⟩,by (repeat (with_reducible first|assumption|exact bR|refine bA ?_|refine bD ?_|((first|refine bS ?_ ?_|refine bBx ?_ ?_);rotate_left;focus (try simp) <;> (try omega))))⟩
    rw [HV.out]
    exact own_made _ _ _ _ (by omega)
theorem atFrom_mem (st:Int):∀ (l:List C3) (n:Nat) (x:Int),x ∈ atFrom st n l→∃ k:Nat,x=(k:Int)∧n≤k∧k<n+l.length
  | [],n,x,h=>by simp [atFrom] at h
  | d :: l,n,x,h=>by
    simp only [atFrom] at h
    have hr:x ∈ atFrom st (n+1) l→∃ k:Nat,x=(k:Int)∧n≤k∧k<n+(d :: l).length:=fun h=>by
      obtain ⟨k,h1,h2,h3⟩:=atFrom_mem st l (n+1) x h
      exact ⟨k,h1,by omega,by simp;omega⟩
    split at h
    · rcases List.mem_cons.1 h with rfl|h
      · exact ⟨n,rfl,Nat.le_refl _,by simp⟩
      · exact hr h
    · exact hr h
def elemOf (cells:List C3) (i:Int):Int:=(cells.getD i.toNat ⟨0,0,0⟩).e
def keptTo (cells:List C3) (l:List Int) (k:Nat):List Int:=(l.take k).map (elemOf cells)
theorem keptTo_snoc {cells:List C3} {l:List Int} {k:Nat} {x:Int} (hk:k<l.length) (hx:l.getD k 0=x):keptTo cells l (k+1)=keptTo cells l k ++ [elemOf cells x]:=by
  unfold keptTo
  have e:l.take (k+1)=l.take k ++ [x]:=by
    rw [List.take_succ_eq_append_getElem hk,← hx];simp [List.getD,List.getElem?_eq_getElem hk]
  rw [e,List.map_append];rfl
theorem keptTo_len (cells:List C3) (l:List Int) (k:Nat):(keptTo cells l k).length≤k:=by
  have:=List.length_take_le k l
  simp [keptTo];omega
theorem keptTo_end {c:Ch} (h:chanOk c=true):keptTo c.cells (atS c 2) (atS c 2).length=keptIn c:=by
  unfold keptTo keptIn
  rw [List.take_length,h];rfl
set_option maxRecDepth 100000 in
set_option maxHeartbeats 2000000 in
theorem sKeptIn_any (c:Ch) (a b:Option Addr) (p q:Nat) (w:World) (h1:Seg w w.heap.size a c.cells.length 3 (cellF c.cells)) (h2:Seg w w.heap.size b c.words.length 1 (intF c.words)) (hm:c.cells.length≤1099511627776) :
    Calls Try.prog 18 #[.agg #[.int .i64 c.cap,.int .i64 c.sent,.int .i64 c.got,.int .i64 c.fin,.slice a c.cells.length p,.slice b c.words.length q]] w fun r w'=>(∃ v,r=.returned v∧OInts w' w.heap.size v (keptIn c))∧Below w.heap.size w w':=by
  obtain ⟨i0,hi0,hz0,hz1,hz2⟩:=info_parts infoInt
  have H1:=Lib.hid h1
  have H2:=Lib.hid h2
  clear h1 h2
  by_cases hc:chanOk c=true
  · have HV:=Lib.hid (keptTo_end hc)
    have HL:Hid (∀ x ∈ atS c 2,∃ k:Nat,x=(k:Int)∧k<c.cells.length):=fun x hx=>by
      obtain ⟨k,h1,_,h3⟩:=atFrom_mem 2 c.cells 0 x hx
      exact ⟨k,h1,by omega⟩
    have hll:(atS c 2).length≤c.cells.length:=by have:=atFrom_len 2 c.cells 0;unfold atS;omega
    go_enter Try.func18,Try.ntmps18
    go_wp2_with fail
    refine (sChanOk_any c a b p q _ (((H1.out).below (by (repeat (with_reducible first|assumption|exact bR|refine bA ?_|refine bD ?_|((first|refine bS ?_ ?_|refine bBx ?_ ?_);rotate_left;focus (try simp) <;> (try omega)))))).more (by simp;try omega)) (((H2.out).below (by (repeat (with_reducible first|assumption|exact bR|refine bA ?_|refine bD ?_|((first|refine bS ?_ ?_|refine bBx ?_ ?_);rotate_left;focus (try simp) <;> (try omega)))))).more (by simp;try omega))).mono ?_
    rintro _ w1 ⟨rfl,hb1⟩
    have hB1:Below w.heap.size w w1:=bT (by (repeat (with_reducible first|assumption|exact bR|refine bA ?_|refine bD ?_|((first|refine bS ?_ ?_|refine bBx ?_ ?_);rotate_left;focus (try simp) <;> (try omega))))) hb1
    have hs1:=hb1.size
    simp at hs1
    have:=fun o=>hb1.cell (p:=⟨w.heap.size,o,none⟩) (by simp;try omega)
    have hout1:OInts w1 (w.heap.size+1) (.slice (some ⟨w.heap.size+1,0,none⟩) 0 0) []:=own_below (own_made_at _ _ _ _ _ (by simp) (by simp)) hb1
    go_wp2_with fail
    refine (l2At_any c 2 a b p q _ (((H1.out).below hB1).more (by omega)) hm).mono ?_
    rintro _ w2 ⟨⟨v2,rfl,hown2⟩,hb2⟩
    have hB2:Below w.heap.size w w2:=bT (by (repeat (with_reducible first|assumption|exact bR|refine bA ?_|refine bD ?_|((first|refine bS ?_ ?_|refine bBx ?_ ?_);rotate_left;focus (try simp) <;> (try omega))))) hb2
    have hs2:=hb2.size
    have hx4:w2.cell? ⟨w.heap.size,4,none⟩=some (.slice a c.cells.length p):=(hb2.cell (by simp;omega)).trans (by simp [*,go_sem])
    have hout2:=own_below hout1 hb2
    have hne2:∀ g,(Value.slice (some ⟨w.heap.size+1,0,none⟩) 0 0).ownBlock=some g→v2.ownBlock≠some g:=fun g hg he=>by
      simp [Value.ownBlock] at hg
      subst hg
      have:=(hown2.lt _ he).1
      omega
    obtain ⟨la,lc,rfl,_⟩:=OInts.seg hown2
    generalize hatl:atS c 2=l at *
    have HA:=Lib.hid hatl
    clear hatl hout1 hb1 hb2
    go_wp2_with fail
    go_loopw [3,5] (fun v i wr=>∃ k:Nat,k≤l.length∧i=.int .i64 k∧OInts wr (w.heap.size+1) v (keptTo c.cells l k)∧(∀ g,v.ownBlock=some g→(Value.slice la l.length lc).ownBlock≠some g)∧OInts wr w1.heap.size (.slice la l.length lc) l∧wr.cell? ⟨w.heap.size,4,none⟩=some (.slice a c.cells.length p)∧w.heap.size<wr.heap.size∧Below w.heap.size w wr) (fun _ i _=>l.length - (intOf i).toNat)
    case atStart=>exact ⟨0,Nat.zero_le _,rfl,(show keptTo c.cells l 0=[] from rfl) ▸ hout2,hne2,hown2,hx4,by omega,hB2⟩
    case round =>
      clear hout2 hne2 hown2 hx4 hB2
      obtain ⟨k,hk,rfl,hown,hne,hol,x4,hlt1,hB⟩:=hrel
      by_cases hlt:k<l.length
      · obtain ⟨i,hxi,hi⟩:=HL.out (l.getD k 0) (by rw [List.getD,List.getElem?_eq_getElem hlt];exact List.getElem_mem hlt)
        have hgl:∃ g,la=some ⟨g,0,none⟩∧wr.cell? ⟨g,k,none⟩=some (.int .i64 (l.getD k 0)):=by
          rcases hol.2 with ⟨h0,h00⟩|⟨g,cap,cur,h0,_⟩
          · omega
          · simp at h0
            refine ⟨g,h0.1,?_⟩
            have:=hol.cells (g:=g) (by rw [h0.1];rfl) k (.int .i64 (l.getD k 0)) (by simp [ints,List.getD,List.getElem?_eq_getElem hlt])
            rw [← this];congr 1;by_cases e:k=0 <;> simp [Addr.add,e]
        obtain ⟨g,rfl,cl⟩:=hgl
        obtain h0|⟨bb,bo,rfl,hb,hcc⟩:=H1.out
        · omega
        have c1:=(hB.cell (p:=⟨bb,bo+i*3+1,none⟩) hb).trans (hcc i 1 hi (by omega))
        simp only [cellF,C3.val] at c1
        clear hcc
        have he:elemOf c.cells (l.getD k 0)=(c.cells.getD i ⟨0,0,0⟩).e:=by rw [hxi];simp [elemOf]
        have HEx:=Lib.hid he
        generalize (c.cells.getD i ⟨0,0,0⟩).e=ev at c1 HEx
        clear he
        have HX:=Lib.hid hxi
        rw [hxi] at cl
        clear hxi
        have hle:=keptTo_len c.cells l k
        have hk0:(0:Int)≤(k:Int):=by omega
        have hk1:(k:Int)<(l.length:Int):=by omega
        have hin0:(0:Int)≤(i:Int):=by omega
        have hin1:(i:Int)<(c.cells.length:Int):=by omega
        go_wp2_with fail
        have hgw:g<wr.heap.size:=World.block_lt_of_cell? _ _ cl
        have hbw:bb<wr.heap.size:=by omega
        have hn1:some w.heap.size≠u3.ownBlock:=fun e=>own_ne hown (b:=w.heap.size) (by omega) e.symm
        have hn2:some g≠u3.ownBlock:=fun e=>hne g e.symm rfl
        have hn3:some bb≠u3.ownBlock:=fun e=>own_ne hown (b:=bb) (by omega) e.symm
        go_region_held3 (fun w'=>w'.cell? ⟨w.heap.size,4,none⟩=some (.slice (some ⟨bb,bo,none⟩) c.cells.length p)∧w'.cell? ⟨g,k,none⟩=some (.int .i64 i)∧w'.cell? ⟨bb,bo+i*3+1,none⟩=some (.int .i64 ev))
          (first
            | (simp [*,go_sem])
            | (refine ⟨World.grownBy.cell hgrow (by simp [*,go_sem]) hn1,World.grownBy.cell hgrow (by simp [*,go_sem]) hn2,World.grownBy.cell hgrow (by simp [*,go_sem]) hn3⟩))
          (first|(refine step_append_lies _ (by rfl) _ _ _ (by rfl) (w.heap.size+1) 2 i0 _ 1 8 Try.underlying25 hi0 hz0 hz1 hz2 rfl (by omega) u3 _ _ (by rfl) (World.ownsRow.drew (hown.alloc _)) ⟨wr.heap.size,0,none⟩ 1 1 [.int .i64 ev] (by rfl) (by rfl) (World.news_of_block (cs:=#[.int .i64 ev]) (t:=2) (fr:=(0,0)) (heap_alloc_new wr _)) (by simp [Value.oneCell']) (by omega) (by unfold maxLen;omega) (by omega) (by simp;omega) (wr.heap.size+1) (by simp) ?_;intro gg cap w4 hown4 hgrow hat hlt4))
        have hx4:w4.cell? ⟨w.heap.size,4,none⟩=some (.slice (some ⟨bb,bo,none⟩) c.cells.length p):=World.grownBy.cell hgrow (by simp [*,go_sem]) hn1
        have hs4:=hgrow.size
        simp at hs4
        have hB4:Below w.heap.size w w4:=bOwn (by (repeat (with_reducible first|assumption|exact bR|refine bA ?_|refine bD ?_|((first|refine bS ?_ ?_|refine bBx ?_ ?_);rotate_left;focus (try simp) <;> (try omega))))) hgrow (by simp;omega) (fun q hq=>by have:=(hown.lt q hq).1;omega)
        have hol4:OInts w4 w1.heap.size (.slice (some ⟨g,0,none⟩) l.length lc) l:=(World.ownsRow.drew (hol.alloc _)).kept hgrow (.inr hn2)
        have hown5:OInts w4 (w.heap.size+1) (.slice (some ⟨gg,0,none⟩) ((keptTo c.cells l k).length+1) cap) (keptTo c.cells l (k+1)):=by
          rw [keptTo_snoc hlt rfl,HEx.out];exact OInts.snoc hown4
        have hgg:g≠gg:=by
          rcases hat with hat|hat
          · intro e;exact hn2 (by rw [hat,e])
          · omega
        clear hown4 hgrow hn1 hn2 hn3 hown hol hne x4 hat
        go_wp2
        go_roundw
        case rel=>exact ⟨k+1,by omega,by go_num,hown5,fun g' e1 e2=>hgg (by simp [Value.ownBlock] at e1 e2;omega),hol4,hx4,by omega,hB4⟩
        case measure=>simp [intOf];omega
      · have:k=l.length:=by omega
        subst this
        go_wp2
        go_ret
        exact ⟨⟨_,rfl,own_lo (HV.out ▸ hown) (by omega)⟩,hB⟩
  · have HV:Hid (keptIn c=[]):=by simp [keptIn,hc,Hid]
    go_enter Try.func18,Try.ntmps18
    go_wp2_with fail
    refine (sChanOk_any c a b p q _ (((H1.out).below (by (repeat (with_reducible first|assumption|exact bR|refine bA ?_|refine bD ?_|((first|refine bS ?_ ?_|refine bBx ?_ ?_);rotate_left;focus (try simp) <;> (try omega)))))).more (by simp;try omega)) (((H2.out).below (by (repeat (with_reducible first|assumption|exact bR|refine bA ?_|refine bD ?_|((first|refine bS ?_ ?_|refine bBx ?_ ?_);rotate_left;focus (try simp) <;> (try omega)))))).more (by simp;try omega))).mono ?_
    rintro _ w1 ⟨rfl,hb1⟩
    have hB1:Below w.heap.size w w1:=bT (by (repeat (with_reducible first|assumption|exact bR|refine bA ?_|refine bD ?_|((first|refine bS ?_ ?_|refine bBx ?_ ?_);rotate_left;focus (try simp) <;> (try omega))))) hb1
    have hout1:OInts w1 w.heap.size (.slice (some ⟨w.heap.size+1,0,none⟩) 0 0) []:=own_below (own_made_at _ _ _ _ _ (by simp) (by simp)) hb1
    go_wp2
    go_ret
    refine ⟨⟨_,rfl,?_⟩,by (repeat (with_reducible first|assumption|exact bR|refine bA ?_|refine bD ?_|((first|refine bS ?_ ?_|refine bBx ?_ ?_);rotate_left;focus (try simp) <;> (try omega))))⟩
    rw [HV.out]
    exact hout1
end Go.Proofs.Ytikhaaccgoiaeaa
