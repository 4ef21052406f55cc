/-
  The laws' helpers that write numbers into lists of Deals of the call's own and look for them, and count them; lists of at most 1048576 elements.
  The laws' helpers that lay out a world anew, that compare two, and that count one; lists of at most 1048576 elements.
  The laws' helpers that write numbers into a channel of the call's own, and that look for them; lists of at most 1048576 elements.
-/
import Derived.Test.YtmnpgkcdfielbaaP04
import Derived.Test.YtmnpgkcdfielbaaP11
import Derived.Test.YtmnpgkcdfielbaaP03
set_option linter.unusedSimpArgs false
set_option linter.unusedVariables false
namespace Go.Proofs.Ytmnpgkcdfielbaa
open Go.RowKit
def numsDeal (k:Int) (m:Nat):Nat→Value
  | 0=>.int .i64 (k+7*(m:Int))
  | 1=>.int .i64 (k+7*(m:Int)+1)
  | 2=>.int .i64 (k+7*(m:Int)+1+1)
  | 3=>.int .i64 (k+7*(m:Int)+1+1+1)
  | 4=>.int .i64 (k+7*(m:Int)+1+1+1+1)
  | 5=>.int .i64 (k+7*(m:Int)+1+1+1+1+1)
  | _=>.int .i64 (k+7*(m:Int)+1+1+1+1+1+1)
theorem numsDeal_ok (k:Int) (m:Nat):∀ j,j<7→numsDeal k m j=numF 7 k m j:=by
  intro j hj
  have:j=0∨j=1∨j=2∨j=3∨j=4∨j=5∨j=6:=by omega
  rcases this with rfl|rfl|rfl|rfl|rfl|rfl|rfl <;> (simp only [numsDeal,numF];congr 1 <;> omega)
set_option maxRecDepth 100000 in
set_option maxHeartbeats 4000000 in
theorem markDealS_any (n:Nat) (f:Nat→Nat→Value) (lo:Nat) (v:Value) (k:Int) (w:World) (h:New w lo v n 7 f) (h0:0≤k) (h1:k≤1099511627776) (hm:n≤1048576) :
    Calls Try.prog 30 #[v,.int .i64 k] w fun r w'=>r=.returned (.int .i64 (k+7*n))∧New w' lo v n 7 (numF 7 k)∧w.grownBy w' v.ownBlock:=by
  rcases h with ⟨rfl,rfl⟩|⟨g,cap,rfl,hl,hL⟩
  · go_enter Try.func30,Try.ntmps30
    go_wp2
    go_loopw [1,5] (fun q i wr=>i=.int .i64 0∧q=.int .i64 k∧wr=w) (fun _ i _=>0 - (intOf i).toNat)
    case atStart=>exact ⟨rfl,rfl,rfl⟩
    case round =>
      obtain ⟨rfl,rfl,rfl⟩:=hrel
      go_wp2
      go_ret
      exact ⟨by simp,.inl ⟨rfl,rfl⟩,grR _ _⟩
  · have hW:=grR w (some g)
    go_enter Try.func30,Try.ntmps30
    go_wp2
    go_loopw [1,5] (fun q i wr=>∃ m:Nat,m≤n∧i=.int .i64 m∧q=.int .i64 (k+7*m)∧Lie wr g n 7 (partN (numF 7 k) f m)∧w.grownBy wr (some g)) (fun _ i _=>n - (intOf i).toNat)
    case atStart=>exact ⟨0,Nat.zero_le _,rfl,by simp,by rw [partN_0];exact hL,hW⟩
    case round =>
      clear hL hW
      obtain ⟨m,hk,rfl,rfl,hL,hW⟩:=hrel
      by_cases hlt:m<n
      ·
        have e0:=hL.cell hlt (show 0<7 by omega)
        have e1:=hL.cell hlt (show 1<7 by omega)
        have e2:=hL.cell hlt (show 2<7 by omega)
        have e3:=hL.cell hlt (show 3<7 by omega)
        have e4:=hL.cell hlt (show 4<7 by omega)
        have e5:=hL.cell hlt (show 5<7 by omega)
        have e6:=hL.cell hlt (show 6<7 by omega)
        simp only [Nat.add_zero] at e0
        have f1:=hL.frozen
        go_wp2
        go_roundw
        case rel=>exact ⟨m+1,by omega,by go_num,by go_num,(hL.set7 hlt (numsDeal k m)).congr (fun i j _ hj=>partN_step (numsDeal_ok k m j hj) i),(grS (grS (grS (grS (grS (grS (grS hW rfl) rfl) rfl) rfl) rfl) rfl) rfl)⟩
        case measure=>simp [intOf];omega
      · have:m=n:=by omega
        subst this
        go_wp2
        go_ret
        exact ⟨rfl,.inr ⟨g,cap,rfl,hl,hL.congr (partN_end _ _ m 7)⟩,hW⟩
set_option maxRecDepth 100000 in
set_option maxHeartbeats 4000000 in
theorem heldDealS_any (n:Nat) (lo:Nat) (v:Value) (k:Int) (w:World) (h:New w lo v n 7 (numF 7 k)) (h0:0≤k) (h1:k≤1099511627776) (hm:n≤1048576) :
    Calls Try.prog 33 #[v,.int .i64 k] w fun r w'=>r=.returned (.int .i64 (k+7*n))∧Below w.heap.size w w':=by
  obtain ⟨a,cap,rfl,hS⟩:=h.seg
  have HS:=Lib.hid hS
  clear hS h
  go_enter Try.func33,Try.ntmps33
  go_wp2
  go_loopw [1,5] (fun q i wr=>∃ m:Nat,m≤n∧i=.int .i64 m∧q=.int .i64 (k+7*m)∧Below w.heap.size w wr) (fun _ i _=>n - (intOf i).toNat)
  case atStart=>exact ⟨0,Nat.zero_le _,rfl,by simp,Below.refl _ _⟩
  case round =>
    obtain ⟨m,hk,rfl,rfl,hB⟩:=hrel
    by_cases hlt:m<n
    · obtain h0'|⟨b,o,rfl,hb,hc⟩:=HS.out
      · omega
      have c0:=(hB.cell (p:=⟨b,o+m*7+0,none⟩) hb).trans (hc m 0 hlt (by omega))
      have c1:=(hB.cell (p:=⟨b,o+m*7+1,none⟩) hb).trans (hc m 1 hlt (by omega))
      have c2:=(hB.cell (p:=⟨b,o+m*7+2,none⟩) hb).trans (hc m 2 hlt (by omega))
      have c3:=(hB.cell (p:=⟨b,o+m*7+3,none⟩) hb).trans (hc m 3 hlt (by omega))
      have c4:=(hB.cell (p:=⟨b,o+m*7+4,none⟩) hb).trans (hc m 4 hlt (by omega))
      have c5:=(hB.cell (p:=⟨b,o+m*7+5,none⟩) hb).trans (hc m 5 hlt (by omega))
      have c6:=(hB.cell (p:=⟨b,o+m*7+6,none⟩) hb).trans (hc m 6 hlt (by omega))
      clear hc
      rw [← numsDeal_ok k m 0 (by omega)] at c0
      rw [← numsDeal_ok k m 1 (by omega)] at c1
      rw [← numsDeal_ok k m 2 (by omega)] at c2
      rw [← numsDeal_ok k m 3 (by omega)] at c3
      rw [← numsDeal_ok k m 4 (by omega)] at c4
      rw [← numsDeal_ok k m 5 (by omega)] at c5
      rw [← numsDeal_ok k m 6 (by omega)] at c6
      simp only [numsDeal,Nat.add_zero] at c0 c1 c2 c3 c4 c5 c6
      have hk0:(0:Int)≤(m:Int):=by omega
      have hk1:(m:Int)<(n:Int):=by omega
      go_wp2
      go_roundw
      case rel=>exact ⟨m+1,by omega,by go_num,by go_num,by exact zB⟩
      case measure=>simp [intOf];omega
    · have:m=n:=by omega
      subst this
      go_wp2
      go_ret
      exact ⟨rfl,hB⟩
set_option maxHeartbeats 400000 in
theorem szDealS_any (n:Nat) (a:Option Addr) (cap:Nat) (left:Int) (w:World) (h0:0≤left) (h1:left≤1048576) (hm:n≤maxLen) :
    Calls Try.prog 13 #[.slice a n cap,.int .i64 left] w fun r w'=>r=.returned (.int .i64 (if left<n then -1 else left - n))∧w=w':=by
  unfold maxLen at hm
  by_cases h:left<n
  · have hn:left - n<0:=by omega
    rw [if_pos h]
    clear h
    go_enter Try.func13,Try.ntmps13
    go_wp2
    go_ret
    exact ⟨rfl,rfl⟩
  · have hn:¬ left - n<0:=by omega
    rw [if_neg h]
    go_enter Try.func13,Try.ntmps13
    go_wp2
    go_ret
    exact ⟨rfl,rfl⟩
end Go.Proofs.Ytmnpgkcdfielbaa
set_option linter.unusedSimpArgs false
set_option linter.unusedVariables false
namespace Go.Proofs.Ytmnpgkcdfielbaa
open Go.RowKit
set_option linter.unusedSimpArgs false
/-- The lists of a world lie in memory below B. -/
def SegW (w:World) (B:Nat) (x:Wo) (a b d e:Option Addr):Prop:=Seg w B a x.ch.cells.length 3 (cellF x.ch.cells)∧Seg w B b x.ch.words.length 1 (intF x.ch.words)∧Seg w B d x.hands.length 14 (handF x.hands)∧Seg w B e x.deals.length 7 (dealF x.deals)
def LenW (x:Wo):Prop:=x.ch.cells.length≤1048576∧x.ch.words.length≤1048576∧x.hands.length≤1048576∧x.deals.length≤1048576
/-- The lists of a world fill four new blocks. -/
def MadeW (w:World) (lo:Nat) (x:Wo) (g1 g2 g3 g4:Nat):Prop:=(lo≤g1∧lo≤g2∧lo≤g3∧lo≤g4)∧Row w g1 98 x.ch.cells.length 3 (cellF x.ch.cells)∧Row w g2 2 x.ch.words.length 1 (intF x.ch.words)∧Row w g3 53 x.hands.length 14 (handF x.hands)∧Row w g4 74 x.deals.length 7 (dealF x.deals)
theorem SegW.below {w w':World} {B:Nat} {x:Wo} {a b d e:Option Addr} (h:SegW w B x a b d e) (hb:Below B w w'):SegW w' B x a b d e:=⟨h.1.below hb,h.2.1.below hb,h.2.2.1.below hb,h.2.2.2.below hb⟩
theorem SegW.more {w:World} {B B':Nat} {x:Wo} {a b d e:Option Addr} (h:SegW w B x a b d e) (hb:B≤B'):SegW w B' x a b d e:=⟨h.1.more hb,h.2.1.more hb,h.2.2.1.more hb,h.2.2.2.more hb⟩
theorem MadeW.below {w w':World} {lo B:Nat} {x:Wo} {g1 g2 g3 g4:Nat} (h:MadeW w lo x g1 g2 g3 g4) (hb:Below B w w') (hB:w.heap.size≤B):MadeW w' lo x g1 g2 g3 g4:=⟨h.1,h.2.1.below hb (Nat.lt_of_lt_of_le h.2.1.lt hB),h.2.2.1.below hb (Nat.lt_of_lt_of_le h.2.2.1.lt hB),h.2.2.2.1.below hb (Nat.lt_of_lt_of_le h.2.2.2.1.lt hB),h.2.2.2.2.below hb (Nat.lt_of_lt_of_le h.2.2.2.2.lt hB)⟩
theorem MadeW.seg {w:World} {lo:Nat} {x:Wo} {g1 g2 g3 g4:Nat} (h:MadeW w lo x g1 g2 g3 g4):SegW w w.heap.size x (some ⟨g1,0,none⟩) (some ⟨g2,0,none⟩) (some ⟨g3,0,none⟩) (some ⟨g4,0,none⟩):=⟨h.2.1.seg,h.2.2.1.seg,h.2.2.2.1.seg,h.2.2.2.2.seg⟩
theorem Row.ty {w:World} {b b' n n' k k':Nat} {t t':TypeId} {f f':Nat→Nat→Value} (h:Row w b t n k f) (h':Row w b' t' n' k' f') (hne:t≠t'):b≠b':=by
  rintro rfl
  obtain ⟨c,hb,_⟩:=h
  obtain ⟨c',hb',_⟩:=h'
  rw [hb] at hb'
  simp at hb'
  exact hne hb'.2
set_option maxRecDepth 100000 in
set_option maxHeartbeats 4000000 in
theorem toWorld_any (x:Wo) (a b d e:Option Addr) (p q r s:Nat) (w:World) (h:SegW w w.heap.size x a b d e) (m:LenW x) :
    Calls Try.prog 6 #[.agg #[.int .i64 x.ch.cap,.int .i64 x.ch.sent,.int .i64 x.ch.got,.int .i64 x.ch.fin,.slice a x.ch.cells.length p,.slice b x.ch.words.length q,.slice d x.hands.length r,.slice e x.deals.length s,.int .i64 x.now]] w fun r' w'=>(∃ g1 g2 g3 g4,r'=.returned (.agg #[.int .i64 x.ch.cap,.int .i64 x.ch.sent,.int .i64 x.ch.got,.int .i64 x.ch.fin,.slice (some ⟨g1,0,none⟩) x.ch.cells.length x.ch.cells.length,.slice (some ⟨g2,0,none⟩) x.ch.words.length x.ch.words.length,.slice (some ⟨g3,0,none⟩) x.hands.length x.hands.length,.slice (some ⟨g4,0,none⟩) x.deals.length x.deals.length,.int .i64 x.now])∧MadeW w' w.heap.size x g1 g2 g3 g4)∧Below w.heap.size w w':=by
  obtain ⟨⟨cap,sent,got,fin,cells,words⟩,hands,deals,now⟩:=x
  obtain ⟨m1,m2,m3,m4⟩:=m
  have H1:=Lib.hid h.1
  have H2:=Lib.hid h.2.1
  have H3:=Lib.hid h.2.2.1
  have H4:=Lib.hid h.2.2.2
  simp only at *
  clear h
  go_enter Try.func6,Try.ntmps6
  go_wp2_with fail
  refine (toChan_any ⟨cap,sent,got,fin,cells,words⟩ a b p q _ (((H1.out).below (by exact zB)).more (by simp;try omega)) (((H2.out).below (by exact zB)).more (by simp;try omega)) m1 m2).mono ?_
  rintro _ w1 ⟨⟨g1,g2,rfl,hg1,hg2,hR1,hR2⟩,hb1⟩
  have hB1:Below w.heap.size w w1:=bT (by exact zB) hb1
  have hs1:=hb1.size
  simp at hs1 hg1 hg2
  have:=fun o=>hb1.cell (p:=⟨w.heap.size,o,none⟩) (by simp [World.setCell];try omega)
  have:=fun o=>hb1.frozen (p:=⟨w.heap.size,o,none⟩) (by simp [World.setCell];try omega)
  have:=fun o=>hb1.cell (p:=⟨w.heap.size+1,o,none⟩) (by simp [World.setCell];try omega)
  have:=fun o=>hb1.frozen (p:=⟨w.heap.size+1,o,none⟩) (by simp [World.setCell];try omega)
  have:=fun o=>hb1.cell (p:=⟨w.heap.size+1+1,o,none⟩) (by simp [World.setCell];try omega)
  have:=fun o=>hb1.frozen (p:=⟨w.heap.size+1+1,o,none⟩) (by simp [World.setCell];try omega)
  have:w.heap.size<w1.heap.size:=by omega
  have:w.heap.size+1<w1.heap.size:=by omega
  have:w.heap.size+1+1<w1.heap.size:=by omega
  have hl1:=hR1.lt
  have hl2:=hR2.lt
  have HR1:=Lib.hid hR1
  have HR2:=Lib.hid hR2
  clear hb1 hR1 hR2
  go_wp2_with fail
  refine (toHandS_any hands d r _ (((H3.out).below (by exact zB)).more (by simp [World.setCell];try omega)) m3).mono ?_
  rintro _ w2 ⟨rfl,hR3,hb2⟩
  have hB2:Below w.heap.size w w2:=bT (by exact zB) hb2
  have hs2:=hb2.size
  simp [World.setCell] at hs2 hR3
  have:=fun o=>hb2.cell (p:=⟨w.heap.size,o,none⟩) (by simp [World.setCell];try omega)
  have:=fun o=>hb2.frozen (p:=⟨w.heap.size,o,none⟩) (by simp [World.setCell];try omega)
  have:=fun o=>hb2.cell (p:=⟨w.heap.size+1,o,none⟩) (by simp [World.setCell];try omega)
  have:=fun o=>hb2.frozen (p:=⟨w.heap.size+1,o,none⟩) (by simp [World.setCell];try omega)
  have:=fun o=>hb2.cell (p:=⟨w.heap.size+1+1,o,none⟩) (by simp [World.setCell];try omega)
  have:=fun o=>hb2.frozen (p:=⟨w.heap.size+1+1,o,none⟩) (by simp [World.setCell];try omega)
  have:w.heap.size<w2.heap.size:=by omega
  have:w.heap.size+1<w2.heap.size:=by omega
  have:w.heap.size+1+1<w2.heap.size:=by omega
  have hl3:=hR3.lt
  have hR1':Row w2 g1 98 cells.length 3 (cellF cells):=Row.below (by repeat (first|with_reducible exact HR1.out|((with_reducible refine Row.setOther ?_ ?_ _);rotate_left;(focus ((try simp);(try omega)))))) hb2 (by simp [World.setCell];try omega)
  have hR2':Row w2 g2 2 words.length 1 (intF words):=Row.below (by repeat (first|with_reducible exact HR2.out|((with_reducible refine Row.setOther ?_ ?_ _);rotate_left;(focus ((try simp);(try omega)))))) hb2 (by simp [World.setCell];try omega)
  have HR1':=Lib.hid hR1'
  have HR2':=Lib.hid hR2'
  have HR3:=Lib.hid hR3
  clear hb2 hR1' hR2' hR3
  go_wp2_with fail
  refine (toDealS_any deals e s _ (((H4.out).below (by exact zB)).more (by simp [World.setCell];try omega)) m4).mono ?_
  rintro _ w3 ⟨rfl,hR4,hb3⟩
  have hB3:Below w.heap.size w w3:=bT (by exact zB) hb3
  have hs3:=hb3.size
  simp [World.setCell] at hs3 hR4
  have:=fun o=>hb3.cell (p:=⟨w.heap.size,o,none⟩) (by simp [World.setCell];try omega)
  have:=fun o=>hb3.frozen (p:=⟨w.heap.size,o,none⟩) (by simp [World.setCell];try omega)
  have:=fun o=>hb3.cell (p:=⟨w.heap.size+1,o,none⟩) (by simp [World.setCell];try omega)
  have:=fun o=>hb3.frozen (p:=⟨w.heap.size+1,o,none⟩) (by simp [World.setCell];try omega)
  have:=fun o=>hb3.cell (p:=⟨w.heap.size+1+1,o,none⟩) (by simp [World.setCell];try omega)
  have:=fun o=>hb3.frozen (p:=⟨w.heap.size+1+1,o,none⟩) (by simp [World.setCell];try omega)
  have:w.heap.size<w3.heap.size:=by omega
  have:w.heap.size+1<w3.heap.size:=by omega
  have:w.heap.size+1+1<w3.heap.size:=by omega
  have hl4:=hR4.lt
  have k1:Row w3 g1 98 cells.length 3 (cellF cells):=Row.below (by repeat (first|with_reducible exact HR1'.out|((with_reducible refine Row.setOther ?_ ?_ _);rotate_left;(focus ((try simp);(try omega)))))) hb3 (by simp [World.setCell];try omega)
  have k2:Row w3 g2 2 words.length 1 (intF words):=Row.below (by repeat (first|with_reducible exact HR2'.out|((with_reducible refine Row.setOther ?_ ?_ _);rotate_left;(focus ((try simp);(try omega)))))) hb3 (by simp [World.setCell];try omega)
  have k3:Row w3 w1.heap.size 53 hands.length 14 (handF hands):=Row.below (by repeat (first|with_reducible exact HR3.out|((with_reducible refine Row.setOther ?_ ?_ _);rotate_left;(focus ((try simp);(try omega)))))) hb3 (by simp [World.setCell];try omega)
  have K1:=Lib.hid k1
  have K2:=Lib.hid k2
  have K3:=Lib.hid k3
  have K4:=Lib.hid hR4
  clear hb3 k1 k2 k3 hR4
  go_wp2_with fail
  refine bodyPost_ret (v:=.agg #[.int .i64 (⟨⟨cap,sent,got,fin,cells,words⟩,hands,deals,now⟩:Wo).ch.cap,.int .i64 (⟨⟨cap,sent,got,fin,cells,words⟩,hands,deals,now⟩:Wo).ch.sent,.int .i64 (⟨⟨cap,sent,got,fin,cells,words⟩,hands,deals,now⟩:Wo).ch.got,.int .i64 (⟨⟨cap,sent,got,fin,cells,words⟩,hands,deals,now⟩:Wo).ch.fin,.slice (some ⟨g1,0,none⟩) cells.length cells.length,.slice (some ⟨g2,0,none⟩) words.length words.length,.slice (some ⟨w1.heap.size,0,none⟩) hands.length hands.length,.slice (some ⟨w2.heap.size,0,none⟩) deals.length deals.length,.int .i64 (⟨⟨cap,sent,got,fin,cells,words⟩,hands,deals,now⟩:Wo).now]) (by simp [results,Try.results6,go_sem, *]) rfl ⟨⟨g1,g2,w1.heap.size,w2.heap.size,rfl,⟨by omega,by omega,by omega,by omega⟩,?_,?_,?_,?_⟩,?_⟩
  · repeat (first|with_reducible exact K1.out|((with_reducible refine Row.setOther ?_ ?_ _);rotate_left;(focus ((try simp);(try omega)))))
  · repeat (first|with_reducible exact K2.out|((with_reducible refine Row.setOther ?_ ?_ _);rotate_left;(focus ((try simp);(try omega)))))
  · repeat (first|with_reducible exact K3.out|((with_reducible refine Row.setOther ?_ ?_ _);rotate_left;(focus ((try simp);(try omega)))))
  · repeat (first|with_reducible exact K4.out|((with_reducible refine Row.setOther ?_ ?_ _);rotate_left;(focus ((try simp);(try omega)))))
  · exact zB
set_option maxRecDepth 100000 in
set_option maxHeartbeats 4000000 in
theorem eqWorld_any (x:Wo) (a b d e a' b' d' e':Option Addr) (p q r s p' q' r' s':Nat) (w:World) (h:SegW w w.heap.size x a b d e) (h':SegW w w.heap.size x a' b' d' e') (m:LenW x) :
    Calls Try.prog 8 #[.agg #[.int .i64 x.ch.cap,.int .i64 x.ch.sent,.int .i64 x.ch.got,.int .i64 x.ch.fin,.slice a x.ch.cells.length p,.slice b x.ch.words.length q,.slice d x.hands.length r,.slice e x.deals.length s,.int .i64 x.now],.agg #[.int .i64 x.ch.cap,.int .i64 x.ch.sent,.int .i64 x.ch.got,.int .i64 x.ch.fin,.slice a' x.ch.cells.length p',.slice b' x.ch.words.length q',.slice d' x.hands.length r',.slice e' x.deals.length s',.int .i64 x.now]] w fun r w'=>r=.returned (.bool true)∧Below w.heap.size w w':=by
  obtain ⟨⟨cap,sent,got,fin,cells,words⟩,hands,deals,now⟩:=x
  obtain ⟨m1,m2,m3,m4⟩:=m
  have H:=Lib.hid h
  have H':=Lib.hid h'
  simp only at *
  clear h h'
  go_enter Try.func8,Try.ntmps8
  go_wp2_with fail
  refine (eqChan_any ⟨cap,sent,got,fin,cells,words⟩ a b a' b' p q p' q' _ (((H.out.1).below (by exact zB)).more (by simp;try omega)) (((H.out.2.1).below (by exact zB)).more (by simp;try omega)) (((H'.out.1).below (by exact zB)).more (by simp;try omega)) (((H'.out.2.1).below (by exact zB)).more (by simp;try omega)) m1 m2).mono ?_
  rintro _ w1 ⟨rfl,hb1⟩
  have hB1:Below w.heap.size w w1:=bT (by exact zB) hb1
  have hs1:=hb1.size
  try simp at hs1
  have:=fun o=>hb1.cell (p:=⟨w.heap.size,o,none⟩) (by simp [World.setCell];try omega)
  have:=fun o=>hb1.frozen (p:=⟨w.heap.size,o,none⟩) (by simp [World.setCell];try omega)
  have:=fun o=>hb1.cell (p:=⟨w.heap.size+1,o,none⟩) (by simp [World.setCell];try omega)
  have:=fun o=>hb1.frozen (p:=⟨w.heap.size+1,o,none⟩) (by simp [World.setCell];try omega)
  clear hb1
  go_wp2_with fail
  refine (eqHandS_any hands d d' r r' _ (((H.out.2.2.1).below hB1).more (by omega)) (((H'.out.2.2.1).below hB1).more (by omega)) m3).mono ?_
  rintro _ w2 ⟨rfl,hb2⟩
  have hB2:Below w.heap.size w w2:=bT hB1 hb2
  have hs2:=hb2.size
  have:=fun o=>hb2.cell (p:=⟨w.heap.size,o,none⟩) (by simp [World.setCell];try omega)
  have:=fun o=>hb2.frozen (p:=⟨w.heap.size,o,none⟩) (by simp [World.setCell];try omega)
  have:=fun o=>hb2.cell (p:=⟨w.heap.size+1,o,none⟩) (by simp [World.setCell];try omega)
  have:=fun o=>hb2.frozen (p:=⟨w.heap.size+1,o,none⟩) (by simp [World.setCell];try omega)
  clear hb2
  go_wp2_with fail
  refine (eqDealS_any deals e e' s s' _ (((H.out.2.2.2).below hB2).more (by omega)) (((H'.out.2.2.2).below hB2).more (by omega)) m4).mono ?_
  rintro _ w3 ⟨rfl,hb3⟩
  have hB3:Below w.heap.size w w3:=bT hB2 hb3
  have hs3:=hb3.size
  have:=fun o=>hb3.cell (p:=⟨w.heap.size,o,none⟩) (by simp [World.setCell];try omega)
  have:=fun o=>hb3.frozen (p:=⟨w.heap.size,o,none⟩) (by simp [World.setCell];try omega)
  have:=fun o=>hb3.cell (p:=⟨w.heap.size+1,o,none⟩) (by simp [World.setCell];try omega)
  have:=fun o=>hb3.frozen (p:=⟨w.heap.size+1,o,none⟩) (by simp [World.setCell];try omega)
  clear hb3
  go_wp2
  go_ret
  exact ⟨rfl,by exact zB⟩
theorem leftN_le {l:Int} {n:Nat} (h:0≤leftN l n):(n:Int)≤l∧leftN l n=l - n:=by
  unfold leftN at *
  split at h <;> rename_i hh
  · omega
  · rw [if_neg hh];omega
theorem leftC_le {l:Int} {c:Ch} (h:0≤leftC l c):(c.cells.length:Int)≤l∧(c.words.length:Int)≤l∧leftC l c≤l:=by
  unfold leftC at *
  split at h <;> rename_i hh
  · omega
  · rw [if_neg hh]
    have h1:=leftN_le (show 0≤leftN l c.cells.length by omega)
    have h2:=leftN_le h
    omega
set_option maxRecDepth 100000 in
set_option maxHeartbeats 4000000 in
theorem szWorld_any (x:Wo) (a b d e:Option Addr) (p q r s:Nat) (left:Int) (w:World) (h0:0≤left) (h1:left≤1048576) (m1:x.ch.cells.length≤maxLen) (m2:x.ch.words.length≤maxLen) (m3:x.hands.length≤maxLen) (m4:x.deals.length≤maxLen) :
    Calls Try.prog 4 #[.agg #[.int .i64 x.ch.cap,.int .i64 x.ch.sent,.int .i64 x.ch.got,.int .i64 x.ch.fin,.slice a x.ch.cells.length p,.slice b x.ch.words.length q,.slice d x.hands.length r,.slice e x.deals.length s,.int .i64 x.now],.int .i64 left] w fun r' w'=>(∃ z:Int,r'=.returned (.int .i64 z)∧(0≤z→LenW x))∧Below w.heap.size w w':=by
  obtain ⟨⟨cap,sent,got,fin,cells,words⟩,hands,deals,now⟩:=x
  simp only at *
  have M3:=Lib.hid m3
  have M4:=Lib.hid m4
  clear m3 m4
  obtain ⟨l1,e1⟩:∃ l,leftC left ⟨cap,sent,got,fin,cells,words⟩=l:=⟨_,rfl⟩
  have hC:=szChan_any ⟨cap,sent,got,fin,cells,words⟩ a b p q left
  rw [e1] at hC
  go_enter Try.func4,Try.ntmps4
  go_wp2_with fail
  refine (hC _ h0 h1 m1 m2).mono ?_
  rintro _ w1 ⟨rfl,hb1⟩
  have hB1:Below w.heap.size w w1:=bT (by exact zB) hb1
  have hs1:=hb1.size
  try simp at hs1
  have:=fun o=>hb1.cell (p:=⟨w.heap.size,o,none⟩) (by simp;try omega)
  clear hC
  by_cases hn1:l1<0
  · clear e1
    go_wp2
    go_ret
    exact ⟨⟨-1,rfl,fun hz=>by omega⟩,hB1⟩
  have hq:=leftC_le (l:=left) (c:=⟨cap,sent,got,fin,cells,words⟩) (by rw [e1];omega)
  rw [e1] at hq
  clear e1
  simp only at hq
  obtain ⟨l2,e2⟩:∃ l,(if l1<(hands.length:Int) then (-1:Int) else l1 - hands.length)=l:=⟨_,rfl⟩
  have E2:=Lib.hid e2
  have hH:=szHandS_any hands.length d r l1
  rw [e2] at hH
  clear e2
  go_wp2_with fail
  refine (hH _ (by omega) (by omega) M3.out).mono ?_
  rintro _ _ ⟨rfl,rfl⟩
  clear hH
  by_cases hn2:l2<0
  · go_wp2
    go_ret
    exact ⟨⟨-1,rfl,fun hz=>by omega⟩,hB1⟩
  have hq2:(hands.length:Int)≤l1∧l2=l1 - hands.length:=by
    have:=E2.out
    split at this <;> omega
  clear E2
  obtain ⟨l3,e3⟩:∃ l,(if l2<(deals.length:Int) then (-1:Int) else l2 - deals.length)=l:=⟨_,rfl⟩
  have E3:=Lib.hid e3
  have hD:=szDealS_any deals.length e s l2
  rw [e3] at hD
  clear e3
  have HQ2:=Lib.hid hq2
  clear hq2
  go_wp2_with fail
  refine (hD _ (by omega) (by have:=HQ2.out;omega) M4.out).mono ?_
  rintro _ _ ⟨rfl,rfl⟩
  clear hD
  by_cases hn3:l3<0
  · go_wp2
    go_ret
    exact ⟨⟨-1,rfl,fun hz=>by omega⟩,hB1⟩
  have hq3:(deals.length:Int)≤l2:=by
    have:=E3.out
    split at this <;> omega
  clear E3
  have HQ3:=Lib.hid hq3
  clear hq3
  go_wp2
  go_ret
  exact ⟨⟨l3,rfl,fun hz=>by have:=HQ2.out;have:=HQ3.out;exact ⟨by show cells.length≤_;omega,by show words.length≤_;omega,by show hands.length≤_;omega,by show deals.length≤_;omega⟩⟩,hB1⟩
end Go.Proofs.Ytmnpgkcdfielbaa
set_option linter.unusedSimpArgs false
set_option linter.unusedVariables false
namespace Go.Proofs.Ytmnpgkcdfielbaa
open Go.RowKit
set_option maxRecDepth 100000 in
set_option maxHeartbeats 1000000 in
theorem markChan_any (n1 n2:Nat) (f1 f2:Nat→Nat→Value) (x1 x2 x3 x4:Int) (l1 l2:Nat) (v1 v2:Value) (k k1:Int) (w:World) (h1:New w l1 v1 n1 3 f1) (h2:New w l2 v2 n2 1 f2) (hne:∀ i,v1.ownBlock=some i→v2.ownBlock≠some i) (hk:0≤k) (hk2:k≤1000) (e1:k1=k+3*n1) (m1:n1≤1048576) (m2:n2≤1048576) :
    Calls Try.prog 28 #[.agg #[.int .i64 x1,.int .i64 x2,.int .i64 x3,.int .i64 x4,v1,v2],.int .i64 k] w fun r w'=>r=.returned (.int .i64 (k1+n2))∧NewC w' l1 v1 (marksC k n1)∧NewI w' l2 v2 (marksI k1 n2)∧Onl v1.ownBlock v2.ownBlock w w':=by
  have H1:=Lib.hid h1
  have H2:=Lib.hid h2
  have Z1:some w.heap.size≠v1.ownBlock:=fun e=>by have:=(h1.lt e.symm).2;omega
  have HN:=Lib.hid hne
  have E1:=Lib.hid e1
  have hk1:0≤k1:=by omega
  have hk3:k1≤1099511627776:=by omega
  clear h1 h2 hne e1
  go_enter Try.func28,Try.ntmps28
  go_wp2_with fail
  refine (markCellS_any n1 f1 l1 v1 k _ (H1.out.below (by exact zB)) (by omega) (by omega) m1).mono ?_
  rintro _ w1 ⟨rfl,hN1,hg1⟩
  rw [← E1.out]
  have hs1:=hg1.size
  simp at hs1
  have:=fun o=>grCell hg1 (b:=w.heap.size) (by simp) Z1 o
  have H2':New w1 l2 v2 n2 1 f2:=(H2.out.below (w1:=w.alloc (.cells #[.int .i64 x1,.int .i64 x2,.int .i64 x3,.int .i64 x4,v1,v2] 33)) (by exact zB)).kept hg1 (by
    by_cases e:v1.ownBlock=none
    · exact .inl e
    · obtain ⟨i,hi⟩:=Option.ne_none_iff_exists'.1 e
      exact .inr (by rw [hi];exact HN.out i hi))
  have HW:=Lib.hid (grA _ hg1)
  clear hg1
  go_wp2_with fail
  refine (markInt64S_any n2 f2 l2 v2 k1 _ H2' (by omega) (by omega) m2).mono ?_
  rintro _ w2 ⟨rfl,hN2,hg2⟩
  have hN1':=hN1.kept hg2 (by
    by_cases e:v2.ownBlock=none
    · exact .inl e
    · obtain ⟨i,hi⟩:=Option.ne_none_iff_exists'.1 e
      exact .inr (by rw [hi];intro e2;exact HN.out i e2 hi))
  have hO:Onl v1.ownBlock v2.ownBlock w w2:=onlT (onl1 HW.out) (onl2 hg2)
  go_wp2
  go_ret
  exact ⟨rfl,hN1',hN2,hO⟩
set_option maxRecDepth 100000 in
set_option maxHeartbeats 1000000 in
theorem heldChan_any (n1 n2:Nat) (x1 x2 x3 x4:Int) (l1 l2:Nat) (v1 v2:Value) (k k1:Int) (w:World) (h1:NewC w l1 v1 (marksC k n1)) (h2:NewI w l2 v2 (marksI k1 n2)) (hk:0≤k) (hk2:k≤1000) (e1:k1=k+3*n1) (m1:n1≤1048576) (m2:n2≤1048576) :
    Calls Try.prog 31 #[.agg #[.int .i64 x1,.int .i64 x2,.int .i64 x3,.int .i64 x4,v1,v2],.int .i64 k] w fun r w'=>r=.returned (.int .i64 (k1+n2))∧Below w.heap.size w w':=by
  have H1:=Lib.hid h1
  have H2:=Lib.hid h2
  have E1:=Lib.hid e1
  have hk1:¬ k1<0:=by omega
  have hk4:¬ k1+n2<0:=by omega
  have hk3:k1≤1099511627776:=by omega
  clear h1 h2 e1
  go_enter Try.func31,Try.ntmps31
  go_wp2_with fail
  refine (heldCellS_any n1 l1 v1 k _ (H1.out.below (by exact zB)) (by omega) (by omega) m1).mono ?_
  rintro _ w1 ⟨rfl,hb1⟩
  rw [← E1.out]
  have hB1:Below w.heap.size w w1:=bT (by exact zB) hb1
  have hs1:=hb1.size
  simp at hs1
  have:=fun o=>hb1.cell (p:=⟨w.heap.size,o,none⟩) (by simp)
  go_wp2_with fail
  refine (heldInt64S_any n2 l2 v2 k1 _ (H2.out.below hB1) (by omega) (by omega) m2).mono ?_
  rintro _ w2 ⟨rfl,hb2⟩
  have hB2:Below w.heap.size w w2:=bT hB1 hb2
  go_wp2
  go_ret
  exact ⟨rfl,hB2⟩
end Go.Proofs.Ytmnpgkcdfielbaa
