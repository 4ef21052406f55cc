/-
  Is a task of a world parked, and does it wait, of the reference model; lists lie in memory and hold at most 2 ^ 40 elements.
  The reference model's KeptIn, WaitingIn and NewChan; lists lie in memory and hold at most 2 ^ 40 elements.
  The draws of the laws: what each hands back is some value of its range, and only the cursor turns; the drawn bytes are at most 4096.
  Who is parked in a world, of the reference model; lists lie in memory and hold at most 2 ^ 40 elements.
  copy of elements of any size into a row of the call's own that it fills; no condition.
  The laws' helpers that write numbers into a channel of the call's own, and that look for them; lists of at most 1048576 elements.
-/
import Derived.Test.YtmnpgkcdfielbaaGreatP17
import Derived.Test.YtmnpgkcdfielbaaGreatP19
import Derived.Test.YtmnpgkcdfielbaaGreatP02
import Derived.Deep.AppendLies
import Derived.Test.YtmnpgkcdfielbaaGreatP01
import Derived.IntWalk
import Derived.Laws.CopyOwn
import Derived.Test.YtmnpgkcdfielbaaGreatP16
set_option linter.unusedSimpArgs false
set_option linter.unusedVariables false
namespace Go.Proofs.YtmnpgkcdfielbaaGreat
open Go.RowKit
set_option linter.unusedSimpArgs false
attribute [local simp] bx_size
attribute [local go_sem ↓] zeroHand toLHand toVHand toSHand storeHandC
attribute [local go_sem] runSHand
set_option maxRecDepth 100000 in
set_option maxHeartbeats 4000000 in
/-- Is a task parked, and does it wait? -/
theorem l12Parked_any (x:Wo) (i:Nat) (hi:i<x.hands.length) (a b d e:Option Addr) (p q r s:Nat) (w:World) (h1:Seg w w.heap.size a x.ch.cells.length 3 (cellF x.ch.cells)) (z1:a=none→p=0) (h2:Seg w w.heap.size b x.ch.words.length 1 (intF x.ch.words)) (z2:b=none→q=0) (h3:Seg w w.heap.size d x.hands.length 14 (handF x.hands)) (h4:Seg w w.heap.size e x.deals.length 7 (dealF x.deals)) (m1:x.ch.cells.length≤1099511627776) (m3:x.hands.length≤1099511627776) (m4:x.deals.length≤1099511627776) :
    Calls Tryz.prog 17 #[.agg #[.int .i64 x.ch.cap,.int .i64 x.ch.sent,.int .i64 x.ch.got,.int .i64 x.ch.fin,.slice a x.ch.cells.length p,.slice b x.ch.words.length q,.slice d x.hands.length r,.slice e x.deals.length s,.int .i64 x.now],.int .i64 i] w fun r' w'=>r'=.returned (.bool (parkB x i))∧Below w.heap.size w w':=by
  have H1:=Lib.hid h1
  have H2:=Lib.hid h2
  have H3:=Lib.hid h3
  have H4:=Lib.hid h4
  have Z1:=Lib.hid z1
  have Z2:=Lib.hid z2
  clear h1 h2 h3 h4 z1 z2
  obtain ⟨b3,o3,rfl,hb3,hc3⟩:∃ b o,d=some ⟨b,o,none⟩∧b<w.heap.size∧Hid (∀ i j,i<x.hands.length→j<14→w.cell? ⟨b,o+i*14+j,none⟩=some (handF x.hands i j)):=by
    rcases H3.out with h0|h0
    · omega
    · exact h0
  have hLd:∀ W:World,hp W b3=hp w b3→(LHand (.pointer (some ⟨b3,o3+i*14,none⟩))).run Tryz.prog W=.ok (.agg (hvals (handAt x i))) W:=fun W e=>ldHandE _ fun j hj=>by rw [show (hvals (handAt x i)).getD j (.int .i64 0)=handF x.hands i j by simp [handF,handAt],← hc3.out i j hi hj];exact World.cell?_of_block e
  have hi0:(0:Int)≤(i:Int):=by omega
  have hi1:(i:Int)<(x.hands.length:Int):=by omega
  have T:=Lib.hid fun a b p q W y1 y2 y3 y4=>sStays_via (stepC x.ch (handAt x i)) x.ch (handAt x i) a b p q W y1 y2 y3 y4 (fun a b p q W y1 y2 y3 y4=>sStep_any x.ch (handAt x i) a b p q W y1 y2 y3 y4)
  have lb1:b3<w.heap.size+1:=by omega
  have nb1:b3≠w.heap.size:=by omega
  have c0:w.cell? ⟨b3,o3+i*14,none⟩=some (.int .i64 (handAt x i).pos):=(hc3.out i 0 hi (by omega)).trans (by simp [handF,handAt,hvals,Array.getD])
  unfold parkB
  by_cases hps:(handAt x (i:Int)).pos=23
  · rw [hps] at c0
    go_enter Tryz.func17,Tryz.ntmps17
    go_wp2_with fail
    go_region_held3 (fun w'=>w'.cell? ⟨w.heap.size,0,none⟩=some (.int .i64 x.ch.cap)∧w'.cell? ⟨w.heap.size,1,none⟩=some (.int .i64 x.ch.sent)∧w'.cell? ⟨w.heap.size,2,none⟩=some (.int .i64 x.ch.got)∧w'.cell? ⟨w.heap.size,3,none⟩=some (.int .i64 x.ch.fin)∧w'.cell? ⟨w.heap.size,4,none⟩=some (.slice a x.ch.cells.length p)∧w'.cell? ⟨w.heap.size,5,none⟩=some (.slice b x.ch.words.length q)∧w'.cell? ⟨w.heap.size,6,none⟩=some (.slice (some ⟨b3,o3,none⟩) x.hands.length r)∧hp w' b3=hp w b3∧w'.cell? ⟨b3,o3+i*14,none⟩=some (.int .i64 23))
      (first|(simp [*,go_sem]))
      (first|(go_at_call 38;refine (T.out a b p q _ ((H1.out.below (by exact zB)).more (by (try simp) <;> omega)) Z1.out ((H2.out.below (by exact zB)).more (by (try simp) <;> omega)) Z2.out).mono ?_;rintro _ w2 ⟨rfl,hb2⟩;have hB2:Below w.heap.size w w2:=bT (by exact zB) hb2;have xb:=fun o=>hb2.cell (p:=⟨w.heap.size,o,none⟩) (by simp);(simp [go_sem] at xb);have zb:hp w2 b3=hp w b3:=hB2.block b3 hb3;have cb:=hB2.cell (p:=⟨b3,o3+i*14,none⟩) hb3;rw [c0] at cb))
    all_goals go_wp2
    all_goals exact bodyPost_ret (v:=.bool (staysN (stepC x.ch (handAt x i)))) (by simp [results,Tryz.results17,go_sem]) rfl ⟨by simp [hps],hB2⟩
  · have hpb:((handAt x (i:Int)).pos == 23)=false:=by simpa using hps
    go_enter Tryz.func17,Tryz.ntmps17
    go_wp2_with fail
    go_region
    go_wp2
    go_ret
    exact ⟨by simp [hps],by exact zB⟩
end Go.Proofs.YtmnpgkcdfielbaaGreat
set_option linter.unusedSimpArgs false
set_option linter.unusedVariables false
namespace Go.Proofs.YtmnpgkcdfielbaaGreat
open Go.RowKit
theorem news1 (w:World) (x:Value) (t:TypeId):∀ j u,[x][j]?=some u→(w.alloc (.cells #[x] t)).cell? ((⟨w.heap.size,0,none⟩:Addr).add j)=some u:=by
  intro j u h
  have hj:j<1:=(List.getElem?_eq_some_iff.1 h).1
  have:j=0:=by omega
  subst this
  simp [Addr.add] at h ⊢;exact h
end Go.Proofs.YtmnpgkcdfielbaaGreat
set_option linter.unusedSimpArgs false
set_option linter.unusedVariables false
namespace Go.Proofs.YtmnpgkcdfielbaaGreat
open Go.RowKit
theorem heap_frozen {w:World} {g:Nat} {cs:Array Value} {t:TypeId} (h:w.heap[g]?=some (.cells cs t (0,0))) (o:Nat):w.frozen? ⟨g,o,none⟩=false:=by
  simp [World.frozen?,h]
end Go.Proofs.YtmnpgkcdfielbaaGreat
set_option linter.unusedSimpArgs false
set_option linter.unusedVariables false
namespace Go.Proofs.YtmnpgkcdfielbaaGreat
open Go.RowKit
set_option linter.unusedSimpArgs false
attribute [local simp] bx_size
attribute [local go_sem ↓] zeroHand toLHand toVHand toSHand storeHandC
attribute [local go_sem] runSHand
theorem parkTo_len (x:Wo):∀ k,(parkTo x k).length≤k
  | 0=>Nat.le_refl _
  | k+1=>by
    have:=parkTo_len x k
    unfold parkTo
    split
    · simp;omega
    · omega
theorem parkTo_yes {x:Wo} {k:Nat} (h:parkB x k=true):parkTo x (k+1)=parkTo x k ++ [(k:Int)]:=by simp [parkTo,h]
theorem parkTo_no {x:Wo} {k:Nat} (h:parkB x k=false):parkTo x (k+1)=parkTo x k:=by simp [parkTo,h]
set_option maxRecDepth 100000 in
set_option maxHeartbeats 4000000 in
/-- Who is parked, and waits. -/
theorem sParkedIn_any (x:Wo) (a b d e:Option Addr) (p q r s:Nat) (w:World) (h1:Seg w w.heap.size a x.ch.cells.length 3 (cellF x.ch.cells)) (z1:a=none→p=0) (h2:Seg w w.heap.size b x.ch.words.length 1 (intF x.ch.words)) (z2:b=none→q=0) (h3:Seg w w.heap.size d x.hands.length 14 (handF x.hands)) (h4:Seg w w.heap.size e x.deals.length 7 (dealF x.deals)) (m1:x.ch.cells.length≤1099511627776) (m3:x.hands.length≤1099511627776) (m4:x.deals.length≤1099511627776) :
    Calls Tryz.prog 5 #[.agg #[.int .i64 x.ch.cap,.int .i64 x.ch.sent,.int .i64 x.ch.got,.int .i64 x.ch.fin,.slice a x.ch.cells.length p,.slice b x.ch.words.length q,.slice d x.hands.length r,.slice e x.deals.length s,.int .i64 x.now]] w fun r' w'=>(∃ v,r'=.returned v∧OInts w' w.heap.size v (parkedIn x))∧Below w.heap.size w w':=by
  obtain ⟨i0,hi0,hz0,hz1,hz2⟩:=info_parts infoInt
  have H1:=Lib.hid h1
  have H2:=Lib.hid h2
  have H3:=Lib.hid h3
  have H4:=Lib.hid h4
  have Z1:=Lib.hid z1
  have Z2:=Lib.hid z2
  clear h1 h2 h3 h4 z1 z2
  cases hk:worldOk x with
  | false =>
    have e0:parkedIn x=[]:=by simp [parkedIn,hk]
    rw [e0]
    go_enter Tryz.func5,Tryz.ntmps5
    go_wp2_with fail
    refine bHit w (by exact zB) fun bb=>?_
    refine (sWorldOk_any x a b d e p q r s _ ((H1.out.below bb).more bb.size) ((H2.out.below bb).more bb.size) ((H3.out.below bb).more bb.size) ((H4.out.below bb).more bb.size) m3 m4).mono ?_
    rintro _ w1 ⟨rfl,hbw1⟩
    rw [hk]
    have o0:OInts w1 w.heap.size _ []:=own_below (own_made_at _ _ _ _ (w.heap.size+1) (by simp) (by simp)) hbw1
    have hB1:Below w.heap.size w w1:=bT bb hbw1
    have hsw1:=hbw1.size;(try simp at hsw1);have zz:=hQ hbw1 (b:=w.heap.size);(try simp [go_sem] at zz);(try clear z_w x_w f_w l_w);have z_w:=zz;clear zz;obtain ⟨x_w,f_w,l_w⟩:=bO z_w;clear hbw1
    go_wp2
    go_ret
    exact ⟨⟨_,rfl,o0⟩,by exact zB⟩
  | true =>
    have e0:parkedIn x=parkTo x x.hands.length:=by simp [parkedIn,hk]
    rw [e0]
    go_enter Tryz.func5,Tryz.ntmps5
    go_wp2_with fail
    refine bHit w (by exact zB) fun bb=>?_
    refine (sWorldOk_any x a b d e p q r s _ ((H1.out.below bb).more bb.size) ((H2.out.below bb).more bb.size) ((H3.out.below bb).more bb.size) ((H4.out.below bb).more bb.size) m3 m4).mono ?_
    rintro _ w1 ⟨rfl,hbw1⟩
    rw [hk]
    have o0:OInts w1 (w.heap.size+1) _ []:=own_below (own_made_at _ _ _ _ (w.heap.size+1) (by simp) (by simp)) hbw1
    have hB1:Below w.heap.size w w1:=bT bb hbw1
    have hsw1:=hbw1.size;(try simp at hsw1);have zz:=hQ hbw1 (b:=w.heap.size);(try simp [go_sem] at zz);(try clear z_w x_w f_w l_w);have z_w:=zz;clear zz;obtain ⟨x_w,f_w,l_w⟩:=bO z_w;clear hbw1
    go_wp2
    go_loopw [3,4] (fun v i wr=>∃ k:Nat,k≤x.hands.length∧i=.int .i64 k∧OInts wr (w.heap.size+1) v (parkTo x k)∧hp wr w.heap.size=some (.cells #[.int .i64 x.ch.cap,.int .i64 x.ch.sent,.int .i64 x.ch.got,.int .i64 x.ch.fin,.slice a x.ch.cells.length p,.slice b x.ch.words.length q,.slice d x.hands.length r,.slice e x.deals.length s,.int .i64 x.now] 38)∧w.heap.size<wr.heap.size∧Below w.heap.size w wr) (fun _ i _=>x.hands.length - (intOf i).toNat)
    case atStart=>exact ⟨0,Nat.zero_le _,rfl,o0,by simp [go_sem, *],by omega,hB1⟩
    case round =>
      obtain ⟨k,hk,rfl,hown,z_w,l_w,hB⟩:=hrel
      clear x_w f_w
      have x_w:∀ o,wr.cell? ⟨w.heap.size,o,none⟩=_:=fun o=>cell_of_row wr w.heap.size o _ _ _ z_w
      have f_w:∀ o,wr.frozen? ⟨w.heap.size,o,none⟩=false:=heap_frozen z_w
      by_cases hlt:k<x.hands.length
      · have hk0:(0:Int)≤(k:Int):=by omega
        have hk1:(k:Int)<(x.hands.length:Int):=by omega
        have hle:=parkTo_len x k
        have PP:=l12Parked_any x k hlt a b d e p q r s wr (H1.out.below hB |>.more hB.size) Z1.out (H2.out.below hB |>.more hB.size) Z2.out (H3.out.below hB |>.more hB.size) (H4.out.below hB |>.more hB.size) m1 m3 m4
        cases hpk:parkB x k with
        | true =>
          rw [hpk] at PP
          go_wp2_with fail;refine bHit w (by exact zB) fun bb=>?_;refine bHit wr (by exact zB) fun bk=>?_;refine (PP).mono ?_;rintro _ w5 ⟨rfl,hbw5⟩;have hCw5:Below w.heap.size w w5:=bT bb hbw5;have hsw5:=hbw5.size;(try simp at hsw5);have zz:=hQ hbw5 (b:=w.heap.size);(first|simp [go_sem,z_w,l_w] at zz|simp [go_sem] at zz|skip);(try clear z_w x_w f_w l_w);have z_w:=zz;clear zz;obtain ⟨x_w,f_w,l_w⟩:=bO z_w;have hKw5:Below wr.heap.size wr w5:=bT bk hbw5;clear hbw5 bb bk
          replace hown:=own_below hown hKw5
          go_wp2_with (at_builtin;refine wpList_append_own _ rfl _ _ 23 rfl (w.heap.size+1) 2 i0 _ 1 8 Tryz.underlying23 hi0 hz0 hz1 hz2 rfl (by decide) _ _ _ rfl (hown.alloc _) ⟨w5.heap.size,0,none⟩ 1 1 [.int .i64 k] rfl rfl (news1 _ _ _) (by simp [Value.oneCell']) ?c3 ?c4 ?c5 ?_)
          case c3=>unfold maxLen;omega
          case c4=>omega
          case c5=>simp;omega
          intro v4 w4 hown4 hg _
          have hne:=own_ne hown (b:=w.heap.size) (by omega)
          have hz4:hp w4 w.heap.size=hp w5 w.heap.size:=by
            refine (hg.block w.heap.size (by simp;omega) (fun e=>hne e.symm)).trans ?_
            exact Below.heap_alloc _ _ _ (by omega)
          have hs4:=hg.size
          simp at hs4
          have hB4:Below w.heap.size w w4:=bOwn (by exact zB) hg (by simp;omega) (fun q hq=>by have:=(hown.lt q hq).1;omega)
          have hown5:OInts w4 (w.heap.size+1) v4 (parkTo x (k+1)):=by
            rw [parkTo_yes hpk];exact OInts.snoc hown4
          clear hown4 hg hne hown
          go_wp2
          go_roundw
          case rel=>exact ⟨k+1,by omega,by go_num,hown5,hz4.trans z_w,by omega,hB4⟩
          case measure=>simp [intOf];omega
        | false =>
          rw [hpk] at PP
          go_wp2_with fail;refine bHit w (by exact zB) fun bb=>?_;refine bHit wr (by exact zB) fun bk=>?_;refine (PP).mono ?_;rintro _ w5 ⟨rfl,hbw5⟩;have hCw5:Below w.heap.size w w5:=bT bb hbw5;have hsw5:=hbw5.size;(try simp at hsw5);have zz:=hQ hbw5 (b:=w.heap.size);(first|simp [go_sem,z_w,l_w] at zz|simp [go_sem] at zz|skip);(try clear z_w x_w f_w l_w);have z_w:=zz;clear zz;obtain ⟨x_w,f_w,l_w⟩:=bO z_w;have hKw5:Below wr.heap.size wr w5:=bT bk hbw5;clear hbw5 bb bk
          replace hown:=own_below hown hKw5
          have hB5:Below w.heap.size w w5:=bT hB hKw5
          go_wp2
          go_roundw
          case rel=>exact ⟨k+1,by omega,by go_num,by rw [parkTo_no hpk];exact hown,z_w,by omega,hB5⟩
          case measure=>simp [intOf];omega
      · have:k=x.hands.length:=by omega
        subst this
        go_wp2
        go_ret
        exact ⟨⟨_,rfl,own_lo hown (by omega)⟩,hB⟩
end Go.Proofs.YtmnpgkcdfielbaaGreat
set_option linter.unusedSimpArgs false
set_option linter.unusedVariables false
namespace Go.Proofs.YtmnpgkcdfielbaaGreat
open Go.RowKit
section
variable {P:Program}
end
end Go.Proofs.YtmnpgkcdfielbaaGreat
set_option linter.unusedSimpArgs false
set_option linter.unusedVariables false
namespace Go.Proofs.YtmnpgkcdfielbaaGreat
open Go.RowKit
set_option maxRecDepth 100000 in
set_option maxHeartbeats 1000000 in
theorem markChan_any (n1 n2:Nat) (f1 f2:Nat→Nat→Value) (x1 x2 x3 x4:Int) (l1 l2:Nat) (v1 v2:Value) (k k1:Int) (w:World) (h1:New w l1 v1 n1 3 f1) (h2:New w l2 v2 n2 1 f2) (hne:∀ i,v1.ownBlock=some i→v2.ownBlock≠some i) (hk:0≤k) (hk2:k≤1000) (e1:k1=k+3*n1) (m1:n1≤1048576) (m2:n2≤1048576) :
    Calls Tryz.prog 26 #[.agg #[.int .i64 x1,.int .i64 x2,.int .i64 x3,.int .i64 x4,v1,v2],.int .i64 k] w fun r w'=>r=.returned (.int .i64 (k1+n2))∧NewC w' l1 v1 (marksC k n1)∧NewI w' l2 v2 (marksI k1 n2)∧Onl v1.ownBlock v2.ownBlock w w':=by
  have H1:=Lib.hid h1
  have H2:=Lib.hid h2
  have Z1:some w.heap.size≠v1.ownBlock:=fun e=>by have:=(h1.lt e.symm).2;omega
  have HN:=Lib.hid hne
  have E1:=Lib.hid e1
  have hk1:0≤k1:=by omega
  have hk3:k1≤1099511627776:=by omega
  clear h1 h2 hne e1
  go_enter Tryz.func26,Tryz.ntmps26
  go_wp2_with fail
  refine (markCellS_any n1 f1 l1 v1 k _ (H1.out.below (by exact zB)) (by omega) (by omega) m1).mono ?_
  rintro _ w1 ⟨rfl,hN1,hg1⟩
  rw [← E1.out]
  have hs1:=hg1.size
  simp at hs1
  have:=fun o=>grCell hg1 (b:=w.heap.size) (by simp) Z1 o
  have H2':New w1 l2 v2 n2 1 f2:=(H2.out.below (w1:=w.alloc (.cells #[.int .i64 x1,.int .i64 x2,.int .i64 x3,.int .i64 x4,v1,v2] 34)) (by exact zB)).kept hg1 (by
    by_cases e:v1.ownBlock=none
    · exact .inl e
    · obtain ⟨i,hi⟩:=Option.ne_none_iff_exists'.1 e
      exact .inr (by rw [hi];exact HN.out i hi))
  have HW:=Lib.hid (grA _ hg1)
  clear hg1
  go_wp2_with fail
  refine (markInt64S_any n2 f2 l2 v2 k1 _ H2' (by omega) (by omega) m2).mono ?_
  rintro _ w2 ⟨rfl,hN2,hg2⟩
  have hN1':=hN1.kept hg2 (by
    by_cases e:v2.ownBlock=none
    · exact .inl e
    · obtain ⟨i,hi⟩:=Option.ne_none_iff_exists'.1 e
      exact .inr (by rw [hi];intro e2;exact HN.out i e2 hi))
  have hO:Onl v1.ownBlock v2.ownBlock w w2:=onlT (onl1 HW.out) (onl2 hg2)
  go_wp2
  go_ret
  exact ⟨rfl,hN1',hN2,hO⟩
end Go.Proofs.YtmnpgkcdfielbaaGreat
