/-
  The reference model's functions of chapter 5, on hands that are kept whole; no condition.
  The reference model's looks at a world; lists lie in memory and hold at most 2 ^ 40 elements.
  The reference model's copies of lists and of a channel: the same in new memory; lists lie in memory and hold at most 2 ^ 40 elements.
-/
import Derived.Test.YtmnpgkcdfielbaaP05
import Derived.Test.YtmnpgkcdfielbaaP07
import Derived.Test.YtmnpgkcdfielbaaP06
import Derived.Test.YtmnpgkcdfielbaaP01
import Derived.Test.YtmnpgkcdfielbaaP02
set_option linter.unusedSimpArgs false
set_option linter.unusedVariables false
namespace Go.Proofs.Ytmnpgkcdfielbaa
open Go.RowKit
attribute [local go_sem ↓] zeroHand toLHand toVHand storeHand storeHandC
set_option maxRecDepth 100000 in
set_option maxHeartbeats 1000000 in
theorem sHandOk_any (h:Ha) (w:World):Calls Try.prog 38 #[.agg (hvals h)] w fun r w'=>r=.returned (.bool (handOk h))∧Below w.heap.size w w':=by
  go_enter Try.func38,Try.ntmps38
  go_wp2_with (first|(go_at_call 40;refine (l1In_any _ _ _ _).mono ?_;rintro _ _ ⟨rfl,rfl⟩)|(go_at_call 66;refine (l1State_any _ _).mono ?_;rintro _ _ ⟨rfl,rfl⟩)|(go_at_call 41;refine (l1Elem_any _ _).mono ?_;rintro _ _ ⟨rfl,rfl⟩)|(go_at_call 62;refine (l2Count_any _ _).mono ?_;rintro _ _ ⟨rfl,rfl⟩)|(go_at_call 65;refine bHit w (by exact zB) fun bb=>?_;refine (sCallOk_any _ _ _).mono ?_;rintro _ w1 ⟨rfl,hbw1⟩;have hCw1:Below w.heap.size w w1:=bT bb hbw1;have hsw1:=hbw1.size;(try simp at hsw1);have zz:=hQ hbw1 (b:=w.heap.size);(try simp [go_sem] at zz);(try clear z_w x_w f_w l_w);have z_w:=zz;clear zz;obtain ⟨x_w,f_w,l_w⟩:=bO z_w;clear hbw1 bb)|(go_at_call 64;refine bHit w (by exact zB) fun bb=>?_;refine (l4None_any _ _ _).mono ?_;rintro _ w1 ⟨rfl,hbw1⟩;have hCw1:Below w.heap.size w w1:=bT bb hbw1;have hsw1:=hbw1.size;(try simp at hsw1);have zz:=hQ hbw1 (b:=w.heap.size);(first|simp [go_sem,z_w,l_w] at zz|simp [go_sem] at zz|skip);(try clear z_w x_w f_w l_w);have z_w:=zz;clear zz;obtain ⟨x_w,f_w,l_w⟩:=bO z_w;clear hbw1 bb))
  all_goals go_ret
  all_goals exact ⟨ret_bool (by simp_all [handOk,handA,handB,handC]),by exact zB⟩
end Go.Proofs.Ytmnpgkcdfielbaa
set_option linter.unusedSimpArgs false
set_option linter.unusedVariables false
namespace Go.Proofs.Ytmnpgkcdfielbaa
open Go.RowKit
set_option linter.unusedSimpArgs false
theorem l11Now_any (n:Int) (w:World):Calls Try.prog 37 #[.int .i64 n] w fun r w'=>r=.returned (.bool (inB n 0 20000))∧w=w':=by
  go_enter Try.func37,Try.ntmps37
  go_wp2_with (go_at_call 40;refine (l1In_any _ _ _ _).mono ?_;rintro _ _ ⟨rfl,rfl⟩)
  go_ret
  exact ⟨rfl,rfl⟩
theorem l11Task_any (c:Ch) (n:Nat) (now who:Int) (v1 v2 v3:Option Addr) (a1 a2 a3:Nat) (v4:Option Addr) (a4 n4 n1 n2:Nat) (hm:n≤1099511627776) (w:World) :
    Calls Try.prog 15 #[.agg #[.int .i64 c.cap,.int .i64 c.sent,.int .i64 c.got,.int .i64 c.fin,.slice v1 n1 a1,.slice v2 n2 a2,.slice v3 n a3,.slice v4 n4 a4,.int .i64 now],.int .i64 who] w fun r w'=>r=.returned (.bool (taskB n who))∧Below w.heap.size w w':=by
  go_enter Try.func15,Try.ntmps15
  go_wp2_with (go_at_call 40;refine (l1In_any _ _ _ _).mono ?_;rintro _ _ ⟨rfl,rfl⟩)
  go_ret
  exact ⟨ret_bool rfl,by exact zB⟩
theorem hand_bad {x:Wo} {k:Nat} {h:Ha} (hk:k<x.hands.length) (hc:x.hands.getD k Ha.zero=h) (e:handB11 x.now h=false):false=worldOk x:=by
  have:x.hands.all (handB11 x.now)=false:=by
    rw [List.all_eq_false]
    refine ⟨x.hands[k],List.getElem_mem hk,?_⟩
    rw [← hc] at e
    simpa [List.getD,List.getElem?_eq_getElem hk] using e
  simp [worldOk,this]
theorem deal_bad {x:Wo} {k:Nat} {d:De} (hk:k<x.deals.length) (hc:x.deals.getD k De.zero=d) (e:dealB x.hands.length x.now d=false):false=worldOk x:=by
  have:x.deals.all (dealB x.hands.length x.now)=false:=by
    rw [List.all_eq_false]
    refine ⟨x.deals[k],List.getElem_mem hk,?_⟩
    rw [← hc] at e
    simpa [List.getD,List.getElem?_eq_getElem hk] using e
  simp [worldOk,this]
theorem take_snocH {α:Type} (l:List α) (k:Nat) (z:α) (hk:k<l.length):l.take (k+1)=l.take k ++ [l.getD k z]:=by
  rw [List.take_succ_eq_append_getElem hk];simp [List.getD,List.getElem?_eq_getElem hk]
theorem hands_snoc {x:Wo} {k:Nat} {h:Ha} (hk:k<x.hands.length) (hc:x.hands.getD k Ha.zero=h) (e:(x.hands.take k).all (handB11 x.now)=true) (e1:handB11 x.now h=true):(x.hands.take (k+1)).all (handB11 x.now)=true:=by
  rw [take_snocH _ k Ha.zero hk,hc,List.all_append,e];simp [e1]
theorem deals_snoc {x:Wo} {k:Nat} {d:De} (hk:k<x.deals.length) (hc:x.deals.getD k De.zero=d) (e:(x.deals.take k).all (dealB x.hands.length x.now)=true) (e1:dealB x.hands.length x.now d=true):(x.deals.take (k+1)).all (dealB x.hands.length x.now)=true:=by
  rw [take_snocH _ k De.zero hk,hc,List.all_append,e];simp [e1]
theorem world_all {x:Wo} (h:worldHead x=true) (h1:(x.hands.take x.hands.length).all (handB11 x.now)=true) (h2:(x.deals.take x.deals.length).all (dealB x.hands.length x.now)=true):true=worldOk x:=by
  rw [List.take_length] at h1 h2
  simp only [worldOk,h,h1,h2];rfl
theorem whead_yes {x:Wo} (h:worldHead x=true):chanOk x.ch=true∧1≤x.hands.length∧x.hands.length≤6∧x.deals.length≤1000∧inB x.now 0 20000=true:=by
  simpa [worldHead] using h
set_option maxRecDepth 100000 in
set_option maxHeartbeats 2000000 in
theorem sWorldOk_no (x:Wo) (a b d e:Option Addr) (p q r s:Nat) (w:World) (h1:Seg w w.heap.size a x.ch.cells.length 3 (cellF x.ch.cells)) (h2:Seg w w.heap.size b x.ch.words.length 1 (intF x.ch.words)) (m3:x.hands.length≤1099511627776) (m4:x.deals.length≤1099511627776) (h:worldHead x=false) :
    Calls Try.prog 14 #[.agg #[.int .i64 x.ch.cap,.int .i64 x.ch.sent,.int .i64 x.ch.got,.int .i64 x.ch.fin,.slice a x.ch.cells.length p,.slice b x.ch.words.length q,.slice d x.hands.length r,.slice e x.deals.length s,.int .i64 x.now]] w fun r w'=>r=.returned (.bool (worldOk x))∧Below w.heap.size w w':=by
  have e0:worldOk x=false:=by simp [worldOk,h]
  rw [e0]
  have H1:=Lib.hid h1
  have H2:=Lib.hid h2
  have H:=Lib.hid h
  clear h1 h2 h e0
  go_enter Try.func14,Try.ntmps14
  go_wp2_with (first|(go_at_call 36;refine bHit w (by exact zB) fun bb=>?_;refine (sChanOk_any x.ch a b p q _ ((H1.out.below bb).more bb.size) ((H2.out.below bb).more bb.size)).mono ?_;rintro _ w1 ⟨rfl,hbw1⟩;have hCw1:Below w.heap.size w w1:=bT bb hbw1;have hsw1:=hbw1.size;(try simp at hsw1);have zz:=And.intro (fun o=>hbw1.cell (p:=⟨w.heap.size,o,none⟩) (by (try simp) <;> omega)) <| fun o=>hbw1.frozen (p:=⟨w.heap.size,o,none⟩) (by (try simp) <;> omega);(try simp [go_sem] at zz);(try clear x_w f_w);obtain ⟨x_w,f_w⟩:=zz;(try clear l_w);have l_w:w.heap.size<w1.heap.size:=(by omega);clear hbw1 bb)|(go_at_call 37;refine (l11Now_any _ _).mono ?_;rintro _ _ ⟨rfl,rfl⟩))
  all_goals first|(go_ret;exact ⟨rfl,by exact zB⟩)|skip
  exfalso
  have h:=H.out
  simp [worldHead, *] at h
  have h2:=h (by omega) (by omega) (by omega)
  simp_all
attribute [local go_sem ↓] zeroHand toLHand toVHand storeHand storeHandC
set_option maxRecDepth 100000 in
set_option maxHeartbeats 4000000 in
theorem sWorldOk_yes (c:Ch) (hs:List Ha) (ds:List De) (now:Int) (a b d e:Option Addr) (p q r s:Nat) (w:World) (h1:Seg w w.heap.size a c.cells.length 3 (cellF c.cells)) (h2:Seg w w.heap.size b c.words.length 1 (intF c.words)) (h3:Seg w w.heap.size d hs.length 14 (handF hs)) (h4:Seg w w.heap.size e ds.length 7 (dealF ds)) (h:worldHead ⟨c,hs,ds,now⟩=true) :
    Calls Try.prog 14 #[.agg #[.int .i64 c.cap,.int .i64 c.sent,.int .i64 c.got,.int .i64 c.fin,.slice a c.cells.length p,.slice b c.words.length q,.slice d hs.length r,.slice e ds.length s,.int .i64 now]] w fun r w'=>r=.returned (.bool (worldOk ⟨c,hs,ds,now⟩))∧Below w.heap.size w w':=by
  obtain ⟨i1,i2,i3,i4,i5⟩:=whead_yes h
  simp only at i1 i2 i3 i4 i5
  have g1:decide ((hs.length:Int)<1)=false:=by simp;omega
  have g2:decide (6<(hs.length:Int))=false:=by simp;omega
  have g3:decide (1000<(ds.length:Int))=false:=by simp;omega
  have H1:=Lib.hid h1
  have H2:=Lib.hid h2
  have H4:=Lib.hid h4
  have HH:=Lib.hid h
  have I2:=Lib.hid i2
  obtain ⟨b3,o3,rfl,hb3,hc3⟩:∃ b o,d=some ⟨b,o,none⟩∧b<w.heap.size∧Hid (∀ i j,i<hs.length→j<14→w.cell? ⟨b,o+i*14+j,none⟩=some (handF hs i j)):=by
    rcases h3 with h0|h0
    · exact absurd h0 (by omega)
    · exact h0
  clear h1 h2 h3 h4 h i2
  go_enter Try.func14,Try.ntmps14
  go_wp2_with (first|((go_at_call 36;refine bHit w (by exact zB) fun bb=>?_;refine (sChanOk_any c a b p q _ ((H1.out.below bb).more bb.size) ((H2.out.below bb).more bb.size)).mono ?_;rintro _ w1 ⟨rfl,hbw1⟩;have hCw1:Below w.heap.size w w1:=bT bb hbw1;have hsw1:=hbw1.size;(try simp at hsw1);have zz:=And.intro (fun o=>hbw1.cell (p:=⟨w.heap.size,o,none⟩) (by (try simp) <;> omega)) <| fun o=>hbw1.frozen (p:=⟨w.heap.size,o,none⟩) (by (try simp) <;> omega);(try simp [go_sem] at zz);(try clear x_w f_w);obtain ⟨x_w,f_w⟩:=zz;(try clear l_w);have l_w:w.heap.size<w1.heap.size:=(by omega);clear hbw1 bb);rw [i1])|((go_at_call 37;refine (l11Now_any _ _).mono ?_;rintro _ _ ⟨rfl,rfl⟩);rw [i5]))
  go_loopw [3] (fun i wr=>∃ k:Nat,k≤hs.length∧i=.int .i64 k∧Hid ((hs.take k).all (handB11 now)=true)∧(∀ o,wr.cell? ⟨w.heap.size,o,none⟩=#[Value.int .i64 c.cap,.int .i64 c.sent,.int .i64 c.got,.int .i64 c.fin,.slice a c.cells.length p,.slice b c.words.length q,.slice (some ⟨b3,o3,none⟩) hs.length r,.slice e ds.length s,.int .i64 now][o]?)∧w.heap.size<wr.heap.size∧Below w.heap.size w wr) (fun i _=>hs.length - (intOf i).toNat)
  case atStart=>exact ⟨0,Nat.zero_le _,rfl,rfl,fun o=>by simp [x_w],by omega,by exact zB⟩
  case round =>
    clear x_w f_w l_w hCw1 hsw1
    obtain ⟨k,hk,rfl,hall,hbx,hlt1,hB⟩:=hrel
    by_cases hlt:k<hs.length
    · have cc:=fun j hj=>hc3.out k j hlt hj
      have hBk:=(hB.cell (p:=⟨b3,o3+k*14+11,none⟩) hb3).trans (cc 11 (by omega))
      simp only [handF] at cc hBk
      generalize hcg:hs.getD k Ha.zero=hx at cc hBk
      have HC:=Lib.hid hcg
      clear hcg
      have hLd:∀ W:World,hp W b3=hp w b3→(LHand (.pointer (some ⟨b3,o3+k*14,none⟩))).run Try.prog W=.ok (.agg (hvals hx)) W:=fun W e=>ldHandE hx fun j hj=>by rw [← cc j hj];exact World.cell?_of_block e
      clear cc
      have c11:wr.cell? ⟨b3,o3+k*14+11,none⟩=some (.int .i64 hx.beg):=hBk
      clear hBk
      have z3:hp wr b3=hp w b3:=hB.block b3 hb3
      have x6:=hbx 6
      have x8:=hbx 8
      simp at x6 x8
      have hk0:(0:Int)≤(k:Int):=by omega
      have hk1:(k:Int)<(hs.length:Int):=by omega
      by_cases hok:handOk hx=true
      · go_wp2_with fail
        go_region_held3 (fun w'=>w'.cell? ⟨w.heap.size,6,none⟩=some (.slice (some ⟨b3,o3,none⟩) hs.length r)∧w'.cell? ⟨w.heap.size,8,none⟩=some (.int .i64 now)∧hp w' b3=hp w b3∧w'.cell? ⟨b3,o3+k*14+11,none⟩=some (.int .i64 hx.beg))
          (first|(simp [*,go_sem]))
          (first|(go_at_call 38;refine (sHandOk_any hx _).mono ?_;rintro _ w7 ⟨rfl,hb7⟩;have hB7:Below w.heap.size w w7:=bT (by exact zB) hb7;have:=hb7.cell (p:=⟨w.heap.size,6,none⟩) (by simp;omega);have:=hb7.cell (p:=⟨w.heap.size,8,none⟩) (by simp;omega);have:=hb7.cell (p:=⟨b3,o3+k*14+11,none⟩) (by simp;omega);have z7:hp w7 b3=hp w b3:=hB7.block b3 hb3;have hx7:=fun o=>(hb7.cell (p:=⟨w.heap.size,o,none⟩) (by simp;omega)).trans (hbx o);have hs7:=hb7.size;simp at hs7;rw [hok]))
        by_cases hct:now<hx.beg
        · go_wp2
          go_ret
          exact ⟨ret_bool (hand_bad (x:=⟨c,hs,ds,now⟩) hlt HC.out (by simp [handB11,hok];omega)),hB7⟩
        · go_wp2
          go_roundw
          case rel=>exact ⟨k+1,by omega,by go_num,hands_snoc (x:=⟨c,hs,ds,now⟩) hlt HC.out hall.out (by simp [handB11,hok];omega),hx7,by omega,hB7⟩
          case measure=>simp [intOf];omega
      · have hok2:handOk hx=false:=by simpa using hok
        clear hok
        go_wp2_with fail
        refine wp_region_held_drew (S:=fun w'=>w'.cell? ⟨w.heap.size,6,none⟩=some (.slice (some ⟨b3,o3,none⟩) hs.length r)∧w'.cell? ⟨w.heap.size,8,none⟩=some (.int .i64 now)∧hp w' b3=hp w b3∧w'.cell? ⟨b3,o3+k*14+11,none⟩=some (.int .i64 hx.beg)) (by kernel_rfl) (by simp [*,go_sem]) (fun hS0=>?_)
        refine wpAnyH_take (i:=0) (oi:=⟨some 41,_,_,_,_,_⟩) (v:=?_) rfl (by kernel_rfl) (by kernel_rfl) (by kernel_rfl) (fun _ _ _ h=>h) (Or.inl ⟨by rfl,?_⟩) (by assumption) ?_;rotate_left;(focus (intro w' hSw;(try dsimp only at hSw);go_simp;(try with_reducible rfl)));(try rotate_left);(try simp only [Act.put,List.setIfInBounds_toArray,List.set_cons_zero,List.set_cons_succ])
        refine wpAnyH_take (i:=1) (oi:=⟨some 42,_,_,_,_,_⟩) (v:=?_) rfl (by kernel_rfl) (by kernel_rfl) (by kernel_rfl) (fun _ _ _ h=>h) (Or.inl ⟨by rfl,?_⟩) (by assumption) ?_;rotate_left;(focus (intro w' hSw;(try dsimp only at hSw);go_simp;(try with_reducible rfl)));(try rotate_left);(try simp only [Act.put,List.setIfInBounds_toArray,List.set_cons_zero,List.set_cons_succ])
        refine wpAnyH_take (i:=2) (oi:=⟨some 43,_,_,_,_,_⟩) (v:=?_) rfl (by kernel_rfl) (by kernel_rfl) (by kernel_rfl) (fun _ _ _ h=>h) (Or.inl ⟨by rfl,?_⟩) (by assumption) ?_;rotate_left;(focus (intro w' hSw;(try dsimp only at hSw);go_simp;(try with_reducible rfl)));(try rotate_left);(try simp only [Act.put,List.setIfInBounds_toArray,List.set_cons_zero,List.set_cons_succ])
        refine wpAnyH_take (i:=3) (oi:=⟨some 44,_,_,_,_,_⟩) (v:=?_) rfl (by kernel_rfl) (by kernel_rfl) (by kernel_rfl) (fun _ _ _ h=>h) (Or.inl ⟨by rfl,?_⟩) (by assumption) ?_;rotate_left;(focus (intro w' hSw;(try dsimp only at hSw);go_simp;(try with_reducible rfl)));(try rotate_left);(try simp only [Act.put,List.setIfInBounds_toArray,List.set_cons_zero,List.set_cons_succ])
        refine wpAnyH_take (i:=4) (oi:=⟨some 45,_,_,_,_,_⟩) (v:=?_) rfl (by kernel_rfl) (by kernel_rfl) (by kernel_rfl) (fun _ _ _ h=>h) (Or.inl ⟨by rfl,?_⟩) (by assumption) ?_;rotate_left;(focus (intro w' hSw;(try dsimp only at hSw);go_simp;(try with_reducible rfl)));(try rotate_left);(try simp only [Act.put,List.setIfInBounds_toArray,List.set_cons_zero,List.set_cons_succ])
        refine wpAnyH_ready (rs:=[5]) (by kernel_rfl) (by simp) ?_
        refine AllReadyH.cons (o:=⟨some 46,_,_,_,_,_⟩) rfl (fun K hK=>?_) AllReadyH.nil
        go_simp
        go_at_call 38
        refine (sHandOk_any hx _).mono ?_
        rintro _ w7 ⟨rfl,hb7⟩
        have hB7:Below w.heap.size w w7:=bT (by exact zB) hb7
        rw [hok2]
        refine hK.out _ _ ?_ (fun hS7=>?_)
        · refine ⟨(hb7.cell (by simp;omega)).trans x6,(hb7.cell (by simp;omega)).trans x8,hB7.block b3 hb3,(hb7.cell (by simp;omega)).trans c11⟩
        clear hK
        (try simp only [Act.put,List.setIfInBounds_toArray,List.set_cons_zero,List.set_cons_succ])
        refine wpAnyH_take (i:=6) (oi:=⟨some 47,_,_,_,_,_⟩) (v:=?_) rfl (by kernel_rfl) (by kernel_rfl) (by kernel_rfl) (fun _ _ _ h=>h) (Or.inl ⟨by rfl,?_⟩) (by assumption) ?_;rotate_left;(focus (intro w' hSw;(try dsimp only at hSw);go_simp;(try with_reducible rfl)));(try rotate_left);(try simp only [Act.put,List.setIfInBounds_toArray,List.set_cons_zero,List.set_cons_succ])
        refine wpAnyH_take (i:=7) (oi:=⟨some 48,_,_,_,_,_⟩) (v:=?_) rfl (by kernel_rfl) (by kernel_rfl) (by kernel_rfl) (fun _ _ _ h=>h) (Or.inl ⟨by rfl,?_⟩) (by assumption) ?_;rotate_left;(focus (intro w' hSw;(try dsimp only at hSw);go_simp;(try with_reducible rfl)));(try rotate_left);(try simp only [Act.put,List.setIfInBounds_toArray,List.set_cons_zero,List.set_cons_succ])
        refine wpAnyH_take (i:=8) (oi:=⟨some 49,_,_,_,_,_⟩) (v:=undef) rfl (by kernel_rfl) (by kernel_rfl) (by kernel_rfl) (fun _ _ _ h=>h) (Or.inr ⟨by rfl,rfl⟩) (by assumption) ?_;(try simp only [Act.put,List.setIfInBounds_toArray,List.set_cons_zero,List.set_cons_succ])
        refine wpAnyH_take (i:=9) (oi:=⟨some 50,_,_,_,_,_⟩) (v:=undef) rfl (by kernel_rfl) (by kernel_rfl) (by kernel_rfl) (fun _ _ _ h=>h) (Or.inr ⟨by rfl,rfl⟩) (by assumption) ?_;(try simp only [Act.put,List.setIfInBounds_toArray,List.set_cons_zero,List.set_cons_succ])
        refine wpAnyH_take (i:=10) (oi:=⟨some 51,_,_,_,_,_⟩) (v:=undef) rfl (by kernel_rfl) (by kernel_rfl) (by kernel_rfl) (fun _ _ _ h=>h) (Or.inr ⟨by rfl,rfl⟩) (by assumption) ?_;(try simp only [Act.put,List.setIfInBounds_toArray,List.set_cons_zero,List.set_cons_succ])
        refine wpAnyH_take (i:=11) (oi:=⟨some 52,_,_,_,_,_⟩) (v:=undef) rfl (by kernel_rfl) (by kernel_rfl) (by kernel_rfl) (fun _ _ _ h=>h) (Or.inr ⟨by rfl,rfl⟩) (by assumption) ?_;(try simp only [Act.put,List.setIfInBounds_toArray,List.set_cons_zero,List.set_cons_succ])
        refine wpAnyH_take (i:=12) (oi:=⟨some 53,_,_,_,_,_⟩) (v:=undef) rfl (by kernel_rfl) (by kernel_rfl) (by kernel_rfl) (fun _ _ _ h=>h) (Or.inr ⟨by rfl,rfl⟩) (by assumption) ?_;(try simp only [Act.put,List.setIfInBounds_toArray,List.set_cons_zero,List.set_cons_succ])
        refine wpAnyH_take (i:=13) (oi:=⟨some 54,_,_,_,_,_⟩) (v:=undef) rfl (by kernel_rfl) (by kernel_rfl) (by kernel_rfl) (fun _ _ _ h=>h) (Or.inr ⟨by rfl,rfl⟩) (by assumption) ?_;(try simp only [Act.put,List.setIfInBounds_toArray,List.set_cons_zero,List.set_cons_succ])
        refine wpAnyH_take (i:=14) (oi:=⟨some 55,_,_,_,_,_⟩) (v:=undef) rfl (by kernel_rfl) (by kernel_rfl) (by kernel_rfl) (fun _ _ _ h=>h) (Or.inr ⟨by rfl,rfl⟩) (by assumption) ?_;(try simp only [Act.put,List.setIfInBounds_toArray,List.set_cons_zero,List.set_cons_succ])
        refine wpAnyH_take (i:=15) (oi:=⟨some 56,_,_,_,_,_⟩) (v:=undef) rfl (by kernel_rfl) (by kernel_rfl) (by kernel_rfl) (fun _ _ _ h=>h) (Or.inr ⟨by rfl,rfl⟩) (by assumption) ?_;(try simp only [Act.put,List.setIfInBounds_toArray,List.set_cons_zero,List.set_cons_succ])
        refine wpAnyH_take (i:=16) (oi:=⟨some 57,_,_,_,_,_⟩) (v:=undef) rfl (by kernel_rfl) (by kernel_rfl) (by kernel_rfl) (fun _ _ _ h=>h) (Or.inr ⟨by rfl,rfl⟩) (by assumption) ?_;(try simp only [Act.put,List.setIfInBounds_toArray,List.set_cons_zero,List.set_cons_succ])
        refine wpAnyH_take (i:=17) (oi:=⟨some 58,_,_,_,_,_⟩) (v:=?_) rfl (by kernel_rfl) (by kernel_rfl) (by kernel_rfl) (fun _ _ _ h=>h) (Or.inl ⟨by rfl,?_⟩) (by assumption) ?_;rotate_left;(focus (intro w' hSw;(try dsimp only at hSw);go_simp;(try with_reducible rfl)));(try rotate_left);(try simp only [Act.put,List.setIfInBounds_toArray,List.set_cons_zero,List.set_cons_succ])
        refine wpAnyH_done (by kernel_rfl) ?_ _
        go_wp2
        go_ret
        exact ⟨ret_bool (hand_bad (x:=⟨c,hs,ds,now⟩) hlt HC.out (by simp [handB11,hok2])),hB7⟩
    · have:k=hs.length:=by omega
      subst this
      go_wp2
      go_loopw [4] (fun i wr=>∃ k:Nat,k≤ds.length∧i=.int .i64 k∧Hid ((ds.take k).all (dealB hs.length now)=true)∧(∀ o,wr.cell? ⟨w.heap.size,o,none⟩=#[Value.int .i64 c.cap,.int .i64 c.sent,.int .i64 c.got,.int .i64 c.fin,.slice a c.cells.length p,.slice b c.words.length q,.slice (some ⟨b3,o3,none⟩) hs.length r,.slice e ds.length s,.int .i64 now][o]?)∧w.heap.size<wr.heap.size∧Below w.heap.size w wr) (fun i _=>ds.length - (intOf i).toNat)
      case atStart=>exact ⟨0,Nat.zero_le _,rfl,rfl,hbx,hlt1,hB⟩
      case round =>
        clear hbx hlt1 hB hk
        obtain ⟨k,hk,rfl,hdall,hbx,hlt1,hB⟩:=hrel
        have x7:=hbx 7
        simp at x7
        by_cases hlt:k<ds.length
        · obtain h0|⟨b4,o4,rfl,hb4,hc4⟩:=H4.out
          · omega
          have cc:=fun j hj=>(hB.cell (p:=⟨b4,o4+k*7+j,none⟩) hb4).trans (hc4 k j hlt hj)
          have c0:=cc 0 (by omega)
          have c1:=cc 1 (by omega)
          have c2:=cc 2 (by omega)
          have c3:=cc 3 (by omega)
          have c4:=cc 4 (by omega)
          have c5:=cc 5 (by omega)
          have c6:=cc 6 (by omega)
          clear cc hc4
          simp only [dealF] at c0 c1 c2 c3 c4 c5 c6
          generalize hcg:ds.getD k De.zero=dd at c0 c1 c2 c3 c4 c5 c6
          simp [dvals,Array.getD] at c0 c1 c2 c3 c4 c5 c6
          have HC:=Lib.hid hcg
          clear hcg
          have x_w:=hbx
          have l_w:=hlt1
          have hl3:hs.length≤1099511627776:=by omega
          go_wp2_with (first|((go_at_call 15;refine bHit w (by exact zB) fun bb=>?_;refine (l11Task_any c hs.length now _ _ _ _ _ _ _ _ _ _ _ _ hl3 _).mono ?_;rintro _ w5 ⟨rfl,hbw5⟩;have hCw5:Below w.heap.size w w5:=bT bb hbw5;have hsw5:=hbw5.size;(try simp at hsw5);have zz:=And.intro (fun o=>hbw5.cell (p:=⟨wr.heap.size,o,none⟩) (by (try simp) <;> omega)) <| And.intro (fun o=>hbw5.frozen (p:=⟨wr.heap.size,o,none⟩) (by (try simp) <;> omega)) <| And.intro (fun o=>hbw5.cell (p:=⟨w.heap.size,o,none⟩) (by (try simp) <;> omega)) <| fun o=>hbw5.frozen (p:=⟨w.heap.size,o,none⟩) (by (try simp) <;> omega);(first|simp [go_sem,x_w,f_w,l_w] at zz|simp [go_sem,x_w,l_w] at zz|simp [go_sem] at zz|skip);(try clear x_wr f_wr);(try clear x_w f_w);obtain ⟨x_wr,f_wr,x_w,f_w⟩:=zz;(try clear l_wr);have l_wr:wr.heap.size<w5.heap.size:=(by omega);(try clear l_w);have l_w:w.heap.size<w5.heap.size:=(by omega);clear hbw5 bb))|((go_at_call 39;refine bHit w (by exact zB) fun bb=>?_;refine (sReplyOk_any _ _ _ _).mono ?_;rintro _ w6 ⟨rfl,hbw6⟩;have hCw6:Below w.heap.size w w6:=bT bb hbw6;have hsw6:=hbw6.size;(try simp at hsw6);have zz:=And.intro (fun o=>hbw6.cell (p:=⟨wr.heap.size,o,none⟩) (by (try simp) <;> omega)) <| And.intro (fun o=>hbw6.frozen (p:=⟨wr.heap.size,o,none⟩) (by (try simp) <;> omega)) <| And.intro (fun o=>hbw6.cell (p:=⟨w.heap.size,o,none⟩) (by (try simp) <;> omega)) <| fun o=>hbw6.frozen (p:=⟨w.heap.size,o,none⟩) (by (try simp) <;> omega);(first|simp [go_sem,x_wr,f_wr,x_w,f_w,l_w,l_wr] at zz|simp [go_sem,x_w,f_w,l_w] at zz|simp [go_sem,x_w,l_w] at zz|simp [go_sem] at zz|skip);(try clear x_wr f_wr);(try clear x_w f_w);obtain ⟨x_wr,f_wr,x_w,f_w⟩:=zz;(try clear l_wr);have l_wr:wr.heap.size<w6.heap.size:=(by omega);(try clear l_w);have l_w:w.heap.size<w6.heap.size:=(by omega);clear hbw6 bb))|(go_at_call 40;refine (l1In_any _ _ _ _).mono ?_;rintro _ _ ⟨rfl,rfl⟩)|(go_at_call 41;refine (l1Elem_any _ _).mono ?_;rintro _ _ ⟨rfl,rfl⟩))
          all_goals first
            | (go_ret;exact ⟨ret_bool (deal_bad (x:=⟨c,hs,ds,now⟩) hlt HC.out (by first|(simp [dealB, *];done)|(have h9:=not_true ‹(!inB dd.out 0 999)=true›;simp [dealB, *];done))),by exact zB⟩)
            | (go_roundw
               case rel=>exact ⟨k+1,by omega,by go_num,deals_snoc (x:=⟨c,hs,ds,now⟩) hlt HC.out hdall.out (by have h9:=not_false ‹(!inB dd.out 0 999)=false›;simp [dealB, *]),fun o=>by simp [x_w],by omega,by exact zB⟩
               case measure=>simp [intOf];omega)
        · have:k=ds.length:=by omega
          subst this
          go_wp2
          go_ret
          exact ⟨ret_bool (world_all HH.out hall.out hdall.out),hB⟩
theorem sWorldOk_any (x:Wo) (a b d e:Option Addr) (p q r s:Nat) (w:World) (h1:Seg w w.heap.size a x.ch.cells.length 3 (cellF x.ch.cells)) (h2:Seg w w.heap.size b x.ch.words.length 1 (intF x.ch.words)) (h3:Seg w w.heap.size d x.hands.length 14 (handF x.hands)) (h4:Seg w w.heap.size e x.deals.length 7 (dealF x.deals)) (m3:x.hands.length≤1099511627776) (m4:x.deals.length≤1099511627776) :
    Calls Try.prog 14 #[.agg #[.int .i64 x.ch.cap,.int .i64 x.ch.sent,.int .i64 x.ch.got,.int .i64 x.ch.fin,.slice a x.ch.cells.length p,.slice b x.ch.words.length q,.slice d x.hands.length r,.slice e x.deals.length s,.int .i64 x.now]] w fun r w'=>r=.returned (.bool (worldOk x))∧Below w.heap.size w w':=by
  cases h:worldHead x with
  | false=>exact sWorldOk_no x a b d e p q r s w h1 h2 m3 m4 h
  | true=>exact sWorldOk_yes x.ch x.hands x.deals x.now a b d e p q r s w h1 h2 h3 h4 h
end Go.Proofs.Ytmnpgkcdfielbaa
set_option linter.unusedSimpArgs false
set_option linter.unusedVariables false
namespace Go.Proofs.Ytmnpgkcdfielbaa
open Go.RowKit
set_option maxHeartbeats 400000 in
theorem l1Copy_any (l:List Int) (b:Option Addr) (q:Nat) (w:World) (h:Seg w w.heap.size b l.length 1 (intF l)) (hz:b=none→q=0) (hm:l.length≤1099511627776) :
    Calls Try.prog 67 #[.slice b l.length q] w fun r w'=>(∃ v,r=.returned v∧OInts w' w.heap.size v l)∧Below w.heap.size w w':=by
  obtain ⟨i0,hi0,hz0,hz1,hz2⟩:=info_parts infoInt
  rcases b with _|⟨bb,bo,sp⟩
  · obtain rfl:=hz rfl
    have hn:l.length=0:=by rcases h with h|⟨_,_,h,_⟩;exact h;cases h
    obtain rfl:l=[]:=List.eq_nil_of_length_eq_zero hn
    go_enter Try.func67,Try.ntmps67
    go_wp2_with (at_builtin;refine wpList_append_own_none rfl _ _ 23 rfl w.heap.size 2 i0 1 Try.underlying23 hi0 _ 0 [] rfl (own_made _ _ _ _ (Nat.le_refl _)) rfl ?_)
    go_ret
    exact ⟨⟨_,rfl,own_made _ _ _ _ (Nat.le_refl _)⟩,by exact zB⟩
  · have HN:Hid (∀ j u,(ints l)[j]?=some u→w.cell? ((⟨bb,bo,sp⟩:Addr).add j)=some u):=by
      rcases h with h0|⟨b',o',e,h1,h2⟩
      · obtain rfl:l=[]:=List.eq_nil_of_length_eq_zero h0
        intro j u hu;simp [ints] at hu
      · simp at e
        obtain ⟨rfl,rfl,rfl⟩:=e
        exact Seg.newsI (.inr ⟨bb,bo,rfl,h1,h2⟩)
    clear h hz
    go_enter Try.func67,Try.ntmps67
    go_wp2_with (at_builtin;refine wpList_append_own _ rfl _ _ 23 rfl w.heap.size 2 i0 _ 1 8 Try.underlying23 hi0 hz0 hz1 hz2 rfl (by decide) _ 0 [] rfl (own_made _ _ _ _ (Nat.le_refl _)) ⟨bb,bo,sp⟩ l.length q (ints l) rfl (by simp [ints]) ?c0 (ints_one l) ?c3 ?c4 ?c5 ?_)
    case c0=>exact fun j u hu=>cell_alloc_of (HN.out j u hu)
    case c3=>unfold maxLen;omega
    case c4=>omega
    case c5=>simp
    intro v w1 hown hg _
    go_wp2
    go_ret
    exact ⟨⟨_,rfl,by simpa using hown⟩,bOwn (by exact zB) hg (by simp) (by simp [Value.ownBlock])⟩
theorem infoCell':(Try.prog.info? 98).map (fun i=>(i.zero,i.size,i.bytes))=some (some (.agg #[.int .i64 0,.int .i64 0,.int .i64 0]),3,24):=by kernel_rfl
set_option maxRecDepth 100000 in
set_option maxHeartbeats 1000000 in
theorem l2Copy_any (c:Ch) (a b:Option Addr) (p q:Nat) (w:World) (h1:Seg w w.heap.size a c.cells.length 3 (cellF c.cells)) (z1:a=none→p=0) (h2:Seg w w.heap.size b c.words.length 1 (intF c.words)) (z2:b=none→q=0) (m1:c.cells.length≤1099511627776) (m2:c.words.length≤1099511627776) :
    Calls Try.prog 42 #[.agg #[.int .i64 c.cap,.int .i64 c.sent,.int .i64 c.got,.int .i64 c.fin,.slice a c.cells.length p,.slice b c.words.length q]] w fun r w' =>
      (∃ v1 v2,r=.returned (.agg #[.int .i64 c.cap,.int .i64 c.sent,.int .i64 c.got,.int .i64 c.fin,v1,v2])∧OCells w' w.heap.size v1 c.cells∧OInts w' w.heap.size v2 c.words)∧Below w.heap.size w w':=by
  obtain ⟨i0,hi0,hz0,hz1,hz2⟩:=info_parts infoCell'
  obtain ⟨cap,sent,got,fin,cells,words⟩:=c
  simp only at *
  have H2:=Lib.hid h2
  have Z2:=Lib.hid z2
  clear h2 z2
  rcases a with _|⟨bb,bo,sp⟩
  · obtain rfl:=z1 rfl
    have hn:cells.length=0:=by rcases h1 with h|⟨_,_,h,_⟩;exact h;cases h
    obtain rfl:cells=[]:=List.eq_nil_of_length_eq_zero hn
    clear h1 z1 hn m1
    go_enter Try.func42,Try.ntmps42
    go_wp2_with (at_builtin;refine wpList_append_own_none rfl _ _ 31 rfl (w.heap.size+1+1) 98 i0 3 Try.underlying31 hi0 _ 0 [] rfl (own_made_at _ _ _ _ _ (by simp) (by simp)) rfl ?_)
    refine (l1Copy_any words b q _ ((H2.out.below (by exact zB)).more (by simp;try omega)) Z2.out m2).mono ?_
    rintro _ w2 ⟨⟨v2,rfl,hown2⟩,hb2⟩
    have hown3:OCells w2 (w.heap.size+1+1) (.slice (some ⟨w.heap.size+1+1,0,none⟩) 0 0) []:=own_below (own_made_at _ _ _ _ _ (by simp) (by simp)) hb2
    have hown4:=own_lo hown2 (lo':=w.heap.size+1+1) (by simp;try omega)
    obtain ⟨vb,vd,rfl,_⟩:=OInts.seg hown2
    clear hown2
    have hs2:=hb2.size
    simp at hs2
    have hB2:Below w.heap.size w w2:=bT (by exact zB) hb2
    have:=fun o=>hb2.cell (p:=⟨w.heap.size,o,none⟩) (by simp;try omega)
    have:=fun o=>hb2.cell (p:=⟨w.heap.size+1,o,none⟩) (by simp;try omega)
    have:=fun o=>hb2.frozen (p:=⟨w.heap.size,o,none⟩) (by simp;try omega)
    have:=fun o=>hb2.frozen (p:=⟨w.heap.size+1,o,none⟩) (by simp;try omega)
    clear hb2
    have:w.heap.size<w.heap.size+1+1:=by omega
    have:w.heap.size≤w.heap.size+1:=by omega
    go_wp2_with fail
    refine bodyPost_ret (v:=.agg #[.int .i64 cap,.int .i64 sent,.int .i64 got,.int .i64 fin,.slice (some ⟨w.heap.size+1+1,0,none⟩) 0 0,.slice vb words.length vd]) (by simp [results,Try.results42,go_sem, *]) rfl ⟨⟨_,_,rfl,?_,?_⟩,?_⟩
    · refine own_lo (lo:=w.heap.size+1+1) ?_ (by omega)
      repeat (first|with_reducible exact hown3|((with_reducible refine own_store ?_ ?_ _);rotate_left;(focus exact own_ne hown3 (by (try simp);try omega))))
    · refine own_lo (lo:=w.heap.size+1+1) ?_ (by omega)
      repeat (first|with_reducible exact hown4|((with_reducible refine own_store ?_ ?_ _);rotate_left;(focus exact own_ne hown4 (by (try simp);try omega))))
    · exact zB
  · have HN:Hid (∀ j u,(flatC cells)[j]?=some u→w.cell? ((⟨bb,bo,sp⟩:Addr).add j)=some u):=by
      rcases h1 with h0|⟨b',o',e,h1,h2⟩
      · obtain rfl:cells=[]:=List.eq_nil_of_length_eq_zero h0
        intro j u hu;simp [flatC] at hu
      · simp at e
        obtain ⟨rfl,rfl,rfl⟩:=e
        exact Seg.newsC (.inr ⟨bb,bo,rfl,h1,h2⟩)
    clear h1 z1
    go_enter Try.func42,Try.ntmps42
    go_wp2_with (at_builtin;refine wpList_append_own _ rfl _ _ 31 rfl (w.heap.size+1+1) 98 i0 _ 3 24 Try.underlying31 hi0 hz0 hz1 hz2 rfl (by decide) _ 0 [] rfl (own_made_at _ _ _ _ _ (by simp) (by simp;try omega)) ⟨bb,bo,sp⟩ cells.length p (flatC cells) rfl (flatC_len cells) ?c0 (flatC_one cells) ?c3 ?c4 ?c5 ?_)
    case c0=>exact fun j u hu=>cell_alloc_of (cell_alloc_of (cell_alloc_of (HN.out j u hu)))
    case c3=>unfold maxLen;omega
    case c4=>omega
    case c5=>(simp;try omega)
    intro v w1 hown hg _
    simp [Value.ownBlock] at hg
    have hs1:=hg.size
    simp at hs1
    have:=rCell (b:=w.heap.size) hg (by simp;omega) (by omega)
    have:=rCell (b:=w.heap.size+1) hg (by simp) (by omega)
    have:=rFroz (b:=w.heap.size) hg (by simp;omega) (by omega)
    have:=rFroz (b:=w.heap.size+1) hg (by simp) (by omega)
    have:w.heap.size<w1.heap.size:=by omega
    have:w.heap.size≤w1.heap.size:=by omega
    have hB1:Below w.heap.size w w1:=bOwn (by exact zB) hg (by simp;omega) (by simp;omega)
    have hown1:OCells w1 (w.heap.size+1+1) v cells:=by simpa using hown
    clear hown
    obtain ⟨va,vc,rfl,_⟩:=OCells.seg hown1
    go_wp2_with fail
    refine (l1Copy_any words b q _ ((H2.out.below hB1).setOther (by simp [World.setCell];omega) (by simp)) Z2.out m2).mono ?_
    rintro _ w2 ⟨⟨v2,rfl,hown2⟩,hb2⟩
    have hown3:=own_below (own_store hown1 (p:=⟨w.heap.size,4,none⟩) (own_ne hown1 (by (try simp);try omega)) (.slice va cells.length vc)) hb2
    have hown4:=own_lo hown2 (lo':=w.heap.size+1+1) (by simp [World.setCell];omega)
    obtain ⟨vb,vd,rfl,_⟩:=OInts.seg hown2
    clear hown2
    have hs2:=hb2.size
    simp [World.setCell] at hs2
    have hB2:Below w.heap.size w w2:=bT (by exact zB) hb2
    have:=fun o=>hb2.cell (p:=⟨w.heap.size,o,none⟩) (by simp [World.setCell];omega)
    have:=fun o=>hb2.cell (p:=⟨w.heap.size+1,o,none⟩) (by simp [World.setCell];omega)
    have:=fun o=>hb2.frozen (p:=⟨w.heap.size,o,none⟩) (by simp [World.setCell];omega)
    have:=fun o=>hb2.frozen (p:=⟨w.heap.size+1,o,none⟩) (by simp [World.setCell];omega)
    clear hb2
    have:w.heap.size<w.heap.size+1+1:=by omega
    have:w.heap.size≤w.heap.size+1:=by omega
    go_wp2_with fail
    refine bodyPost_ret (v:=.agg #[.int .i64 cap,.int .i64 sent,.int .i64 got,.int .i64 fin,.slice va cells.length vc,.slice vb words.length vd]) (by simp [results,Try.results42,go_sem, *]) rfl ⟨⟨_,_,rfl,?_,?_⟩,?_⟩
    · refine own_lo (lo:=w.heap.size+1+1) ?_ (by omega)
      repeat (first|with_reducible exact hown3|((with_reducible refine own_store ?_ ?_ _);rotate_left;(focus exact own_ne hown3 (by (try simp);try omega))))
    · refine own_lo (lo:=w.heap.size+1+1) ?_ (by omega)
      repeat (first|with_reducible exact hown4|((with_reducible refine own_store ?_ ?_ _);rotate_left;(focus exact own_ne hown4 (by (try simp);try omega))))
    · exact zB
end Go.Proofs.Ytmnpgkcdfielbaa
