/-
  The reference model's looks at a world; lists lie in memory and hold at most 2 ^ 40 elements.
  Whether a world's hands are right, as the program asks it of a world behind a pointer; the list lies in memory.
  Whether a world's deals are right, as the program asks it of a world behind a pointer; the list lies in memory.
  Lists that are made with a number of zeros; at most 1048576 elements.
  The contracts of the laws' helpers on lists of numbers; lists of at most 1048576 elements.
  The contracts of the laws' helpers on cells; lists of at most 1048576 elements.
-/
import Derived.Test.YtmnpgkcdfielbaaGreatP14
import Derived.Test.YtmnpgkcdfielbaaGreatP02
import Derived.Test.YtmnpgkcdfielbaaGreatP06
import Derived.Test.YtmnpgkcdfielbaaGreatP07
import Derived.Test.YtmnpgkcdfielbaaGreatP05
import Derived.Test.YtmnpgkcdfielbaaGreatP01
set_option linter.unusedSimpArgs false
set_option linter.unusedVariables false
namespace Go.Proofs.YtmnpgkcdfielbaaGreat
open Go.RowKit
set_option linter.unusedSimpArgs false
theorem l11Now_any (n:Int) (w:World):Calls Tryz.prog 32 #[.int .i64 n] w fun r w'=>r=.returned (.bool (inB n 0 20000))∧w=w':=by
  go_enter Tryz.func32,Tryz.ntmps32
  go_wp2_with (go_at_call 36;refine (l1In_any _ _ _ _).mono ?_;rintro _ _ ⟨rfl,rfl⟩)
  go_ret
  exact ⟨rfl,rfl⟩
theorem l11Task_any (c:Ch) (n:Nat) (now who:Int) (v1 v2 v3:Option Addr) (a1 a2 a3:Nat) (v4:Option Addr) (a4 n4 n1 n2:Nat) (hm:n≤1099511627776) (w:World) :
    Calls Tryz.prog 34 #[.agg #[.int .i64 c.cap,.int .i64 c.sent,.int .i64 c.got,.int .i64 c.fin,.slice v1 n1 a1,.slice v2 n2 a2,.slice v3 n a3,.slice v4 n4 a4,.int .i64 now],.int .i64 who] w fun r w'=>r=.returned (.bool (taskB n who))∧Below w.heap.size w w':=by
  go_enter Tryz.func34,Tryz.ntmps34
  go_wp2_with (go_at_call 36;refine (l1In_any _ _ _ _).mono ?_;rintro _ _ ⟨rfl,rfl⟩)
  go_ret
  exact ⟨ret_bool rfl,by exact zB⟩
theorem hand_bad {x:Wo} {k:Nat} {h:Ha} (hk:k<x.hands.length) (hc:x.hands.getD k Ha.zero=h) (e:handB11 x.now h=false):false=worldOk x:=by
  have:x.hands.all (handB11 x.now)=false:=by
    rw [List.all_eq_false]
    refine ⟨x.hands[k],List.getElem_mem hk,?_⟩
    rw [← hc] at e
    simpa [List.getD,List.getElem?_eq_getElem hk] using e
  simp [worldOk,this]
theorem deal_bad {x:Wo} {k:Nat} {d:De} (hk:k<x.deals.length) (hc:x.deals.getD k De.zero=d) (e:dealB x.hands.length x.now d=false):false=worldOk x:=by
  have:x.deals.all (dealB x.hands.length x.now)=false:=by
    rw [List.all_eq_false]
    refine ⟨x.deals[k],List.getElem_mem hk,?_⟩
    rw [← hc] at e
    simpa [List.getD,List.getElem?_eq_getElem hk] using e
  simp [worldOk,this]
theorem take_snocH {α:Type} (l:List α) (k:Nat) (z:α) (hk:k<l.length):l.take (k+1)=l.take k ++ [l.getD k z]:=by
  rw [List.take_succ_eq_append_getElem hk];simp [List.getD,List.getElem?_eq_getElem hk]
theorem hands_snoc {x:Wo} {k:Nat} {h:Ha} (hk:k<x.hands.length) (hc:x.hands.getD k Ha.zero=h) (e:(x.hands.take k).all (handB11 x.now)=true) (e1:handB11 x.now h=true):(x.hands.take (k+1)).all (handB11 x.now)=true:=by
  rw [take_snocH _ k Ha.zero hk,hc,List.all_append,e];simp [e1]
theorem deals_snoc {x:Wo} {k:Nat} {d:De} (hk:k<x.deals.length) (hc:x.deals.getD k De.zero=d) (e:(x.deals.take k).all (dealB x.hands.length x.now)=true) (e1:dealB x.hands.length x.now d=true):(x.deals.take (k+1)).all (dealB x.hands.length x.now)=true:=by
  rw [take_snocH _ k De.zero hk,hc,List.all_append,e];simp [e1]
theorem world_all {x:Wo} (h:worldHead x=true) (h1:(x.hands.take x.hands.length).all (handB11 x.now)=true) (h2:(x.deals.take x.deals.length).all (dealB x.hands.length x.now)=true):true=worldOk x:=by
  rw [List.take_length] at h1 h2
  simp only [worldOk,h,h1,h2];rfl
theorem whead_yes {x:Wo} (h:worldHead x=true):chanOk x.ch=true∧1≤x.hands.length∧x.hands.length≤6∧x.deals.length≤1000∧inB x.now 0 20000=true:=by
  simpa [worldHead] using h
set_option maxRecDepth 100000 in
set_option maxHeartbeats 2000000 in
theorem sWorldOk_no (x:Wo) (a b d e:Option Addr) (p q r s:Nat) (w:World) (h1:Seg w w.heap.size a x.ch.cells.length 3 (cellF x.ch.cells)) (h2:Seg w w.heap.size b x.ch.words.length 1 (intF x.ch.words)) (m3:x.hands.length≤1099511627776) (m4:x.deals.length≤1099511627776) (h:worldHead x=false) :
    Calls Tryz.prog 16 #[.agg #[.int .i64 x.ch.cap,.int .i64 x.ch.sent,.int .i64 x.ch.got,.int .i64 x.ch.fin,.slice a x.ch.cells.length p,.slice b x.ch.words.length q,.slice d x.hands.length r,.slice e x.deals.length s,.int .i64 x.now]] w fun r w'=>r=.returned (.bool (worldOk x))∧Below w.heap.size w w':=by
  have e0:worldOk x=false:=by simp [worldOk,h]
  rw [e0]
  have H1:=Lib.hid h1
  have H2:=Lib.hid h2
  have H:=Lib.hid h
  clear h1 h2 h e0
  go_enter Tryz.func16,Tryz.ntmps16
  go_wp2_with (first|(go_at_call 31;refine bHit w (by exact zB) fun bb=>?_;refine (sChanOk_any x.ch a b p q _ ((H1.out.below bb).more bb.size) ((H2.out.below bb).more bb.size)).mono ?_;rintro _ w1 ⟨rfl,hbw1⟩;have hCw1:Below w.heap.size w w1:=bT bb hbw1;have hsw1:=hbw1.size;(try simp at hsw1);have zz:=And.intro (fun o=>hbw1.cell (p:=⟨w.heap.size,o,none⟩) (by (try simp) <;> omega)) <| fun o=>hbw1.frozen (p:=⟨w.heap.size,o,none⟩) (by (try simp) <;> omega);(try simp [go_sem] at zz);(try clear x_w f_w);obtain ⟨x_w,f_w⟩:=zz;(try clear l_w);have l_w:w.heap.size<w1.heap.size:=(by omega);clear hbw1 bb)|(go_at_call 32;refine (l11Now_any _ _).mono ?_;rintro _ _ ⟨rfl,rfl⟩))
  all_goals first|(go_ret;exact ⟨rfl,by exact zB⟩)|skip
  exfalso
  have h:=H.out
  simp [worldHead, *] at h
  have h2:=h (by omega) (by omega) (by omega)
  simp_all
attribute [local go_sem ↓] zeroHand toLHand toVHand storeHand storeHandC
set_option maxRecDepth 100000 in
set_option maxHeartbeats 4000000 in
theorem sWorldOk_yes (c:Ch) (hs:List Ha) (ds:List De) (now:Int) (a b d e:Option Addr) (p q r s:Nat) (w:World) (h1:Seg w w.heap.size a c.cells.length 3 (cellF c.cells)) (h2:Seg w w.heap.size b c.words.length 1 (intF c.words)) (h3:Seg w w.heap.size d hs.length 14 (handF hs)) (h4:Seg w w.heap.size e ds.length 7 (dealF ds)) (h:worldHead ⟨c,hs,ds,now⟩=true) :
    Calls Tryz.prog 16 #[.agg #[.int .i64 c.cap,.int .i64 c.sent,.int .i64 c.got,.int .i64 c.fin,.slice a c.cells.length p,.slice b c.words.length q,.slice d hs.length r,.slice e ds.length s,.int .i64 now]] w fun r w'=>r=.returned (.bool (worldOk ⟨c,hs,ds,now⟩))∧Below w.heap.size w w':=by
  obtain ⟨i1,i2,i3,i4,i5⟩:=whead_yes h
  simp only at i1 i2 i3 i4 i5
  have g1:decide ((hs.length:Int)<1)=false:=by simp;omega
  have g2:decide (6<(hs.length:Int))=false:=by simp;omega
  have g3:decide (1000<(ds.length:Int))=false:=by simp;omega
  have H1:=Lib.hid h1
  have H2:=Lib.hid h2
  have H4:=Lib.hid h4
  have HH:=Lib.hid h
  have I2:=Lib.hid i2
  obtain ⟨b3,o3,rfl,hb3,hc3⟩:∃ b o,d=some ⟨b,o,none⟩∧b<w.heap.size∧Hid (∀ i j,i<hs.length→j<14→w.cell? ⟨b,o+i*14+j,none⟩=some (handF hs i j)):=by
    rcases h3 with h0|h0
    · exact absurd h0 (by omega)
    · exact h0
  clear h1 h2 h3 h4 h i2
  go_enter Tryz.func16,Tryz.ntmps16
  go_wp2_with (first|((go_at_call 31;refine bHit w (by exact zB) fun bb=>?_;refine (sChanOk_any c a b p q _ ((H1.out.below bb).more bb.size) ((H2.out.below bb).more bb.size)).mono ?_;rintro _ w1 ⟨rfl,hbw1⟩;have hCw1:Below w.heap.size w w1:=bT bb hbw1;have hsw1:=hbw1.size;(try simp at hsw1);have zz:=And.intro (fun o=>hbw1.cell (p:=⟨w.heap.size,o,none⟩) (by (try simp) <;> omega)) <| fun o=>hbw1.frozen (p:=⟨w.heap.size,o,none⟩) (by (try simp) <;> omega);(try simp [go_sem] at zz);(try clear x_w f_w);obtain ⟨x_w,f_w⟩:=zz;(try clear l_w);have l_w:w.heap.size<w1.heap.size:=(by omega);clear hbw1 bb);rw [i1])|((go_at_call 32;refine (l11Now_any _ _).mono ?_;rintro _ _ ⟨rfl,rfl⟩);rw [i5]))
  go_loopw [3] (fun i wr=>∃ k:Nat,k≤hs.length∧i=.int .i64 k∧Hid ((hs.take k).all (handB11 now)=true)∧(∀ o,wr.cell? ⟨w.heap.size,o,none⟩=#[Value.int .i64 c.cap,.int .i64 c.sent,.int .i64 c.got,.int .i64 c.fin,.slice a c.cells.length p,.slice b c.words.length q,.slice (some ⟨b3,o3,none⟩) hs.length r,.slice e ds.length s,.int .i64 now][o]?)∧w.heap.size<wr.heap.size∧Below w.heap.size w wr) (fun i _=>hs.length - (intOf i).toNat)
  case atStart=>exact ⟨0,Nat.zero_le _,rfl,rfl,fun o=>by simp [x_w],by omega,by exact zB⟩
  case round =>
    clear x_w f_w l_w hCw1 hsw1
    obtain ⟨k,hk,rfl,hall,hbx,hlt1,hB⟩:=hrel
    by_cases hlt:k<hs.length
    · have cc:=fun j hj=>hc3.out k j hlt hj
      have hBk:=(hB.cell (p:=⟨b3,o3+k*14+11,none⟩) hb3).trans (cc 11 (by omega))
      simp only [handF] at cc hBk
      generalize hcg:hs.getD k Ha.zero=hx at cc hBk
      have HC:=Lib.hid hcg
      clear hcg
      have hLd:∀ W:World,hp W b3=hp w b3→(LHand (.pointer (some ⟨b3,o3+k*14,none⟩))).run Tryz.prog W=.ok (.agg (hvals hx)) W:=fun W e=>ldHandE hx fun j hj=>by rw [← cc j hj];exact World.cell?_of_block e
      clear cc
      have c11:wr.cell? ⟨b3,o3+k*14+11,none⟩=some (.int .i64 hx.beg):=hBk
      clear hBk
      have z3:hp wr b3=hp w b3:=hB.block b3 hb3
      have x6:=hbx 6
      have x8:=hbx 8
      simp at x6 x8
      have hk0:(0:Int)≤(k:Int):=by omega
      have hk1:(k:Int)<(hs.length:Int):=by omega
      by_cases hok:handOk hx=true
      · go_wp2_with fail
        go_region_held3 (fun w'=>w'.cell? ⟨w.heap.size,6,none⟩=some (.slice (some ⟨b3,o3,none⟩) hs.length r)∧w'.cell? ⟨w.heap.size,8,none⟩=some (.int .i64 now)∧hp w' b3=hp w b3∧w'.cell? ⟨b3,o3+k*14+11,none⟩=some (.int .i64 hx.beg))
          (first|(simp [*,go_sem]))
          (first|(go_at_call 33;refine (sHandOk_any hx _).mono ?_;rintro _ w7 ⟨rfl,hb7⟩;have hB7:Below w.heap.size w w7:=bT (by exact zB) hb7;have:=hb7.cell (p:=⟨w.heap.size,6,none⟩) (by simp;omega);have:=hb7.cell (p:=⟨w.heap.size,8,none⟩) (by simp;omega);have:=hb7.cell (p:=⟨b3,o3+k*14+11,none⟩) (by simp;omega);have z7:hp w7 b3=hp w b3:=hB7.block b3 hb3;have hx7:=fun o=>(hb7.cell (p:=⟨w.heap.size,o,none⟩) (by simp;omega)).trans (hbx o);have hs7:=hb7.size;simp at hs7;rw [hok]))
        by_cases hct:now<hx.beg
        · go_wp2
          go_ret
          exact ⟨ret_bool (hand_bad (x:=⟨c,hs,ds,now⟩) hlt HC.out (by simp [handB11,hok];omega)),hB7⟩
        · go_wp2
          go_roundw
          case rel=>exact ⟨k+1,by omega,by go_num,hands_snoc (x:=⟨c,hs,ds,now⟩) hlt HC.out hall.out (by simp [handB11,hok];omega),hx7,by omega,hB7⟩
          case measure=>simp [intOf];omega
      · have hok2:handOk hx=false:=by simpa using hok
        clear hok
        go_wp2_with fail
        refine wp_region_held_drew (S:=fun w'=>w'.cell? ⟨w.heap.size,6,none⟩=some (.slice (some ⟨b3,o3,none⟩) hs.length r)∧w'.cell? ⟨w.heap.size,8,none⟩=some (.int .i64 now)∧hp w' b3=hp w b3∧w'.cell? ⟨b3,o3+k*14+11,none⟩=some (.int .i64 hx.beg)) (by kernel_rfl) (by simp [*,go_sem]) (fun hS0=>?_)
        refine wpAnyH_take (i:=0) (oi:=⟨some 41,_,_,_,_,_⟩) (v:=?_) rfl (by kernel_rfl) (by kernel_rfl) (by kernel_rfl) (fun _ _ _ h=>h) (Or.inl ⟨by rfl,?_⟩) (by assumption) ?_;rotate_left;(focus (intro w' hSw;(try dsimp only at hSw);go_simp;(try with_reducible rfl)));(try rotate_left);(try simp only [Act.put,List.setIfInBounds_toArray,List.set_cons_zero,List.set_cons_succ])
        refine wpAnyH_take (i:=1) (oi:=⟨some 42,_,_,_,_,_⟩) (v:=?_) rfl (by kernel_rfl) (by kernel_rfl) (by kernel_rfl) (fun _ _ _ h=>h) (Or.inl ⟨by rfl,?_⟩) (by assumption) ?_;rotate_left;(focus (intro w' hSw;(try dsimp only at hSw);go_simp;(try with_reducible rfl)));(try rotate_left);(try simp only [Act.put,List.setIfInBounds_toArray,List.set_cons_zero,List.set_cons_succ])
        refine wpAnyH_take (i:=2) (oi:=⟨some 43,_,_,_,_,_⟩) (v:=?_) rfl (by kernel_rfl) (by kernel_rfl) (by kernel_rfl) (fun _ _ _ h=>h) (Or.inl ⟨by rfl,?_⟩) (by assumption) ?_;rotate_left;(focus (intro w' hSw;(try dsimp only at hSw);go_simp;(try with_reducible rfl)));(try rotate_left);(try simp only [Act.put,List.setIfInBounds_toArray,List.set_cons_zero,List.set_cons_succ])
        refine wpAnyH_take (i:=3) (oi:=⟨some 44,_,_,_,_,_⟩) (v:=?_) rfl (by kernel_rfl) (by kernel_rfl) (by kernel_rfl) (fun _ _ _ h=>h) (Or.inl ⟨by rfl,?_⟩) (by assumption) ?_;rotate_left;(focus (intro w' hSw;(try dsimp only at hSw);go_simp;(try with_reducible rfl)));(try rotate_left);(try simp only [Act.put,List.setIfInBounds_toArray,List.set_cons_zero,List.set_cons_succ])
        refine wpAnyH_take (i:=4) (oi:=⟨some 45,_,_,_,_,_⟩) (v:=?_) rfl (by kernel_rfl) (by kernel_rfl) (by kernel_rfl) (fun _ _ _ h=>h) (Or.inl ⟨by rfl,?_⟩) (by assumption) ?_;rotate_left;(focus (intro w' hSw;(try dsimp only at hSw);go_simp;(try with_reducible rfl)));(try rotate_left);(try simp only [Act.put,List.setIfInBounds_toArray,List.set_cons_zero,List.set_cons_succ])
        refine wpAnyH_ready (rs:=[5]) (by kernel_rfl) (by simp) ?_
        refine AllReadyH.cons (o:=⟨some 46,_,_,_,_,_⟩) rfl (fun K hK=>?_) AllReadyH.nil
        go_simp
        go_at_call 33
        refine (sHandOk_any hx _).mono ?_
        rintro _ w7 ⟨rfl,hb7⟩
        have hB7:Below w.heap.size w w7:=bT (by exact zB) hb7
        rw [hok2]
        refine hK.out _ _ ?_ (fun hS7=>?_)
        · refine ⟨(hb7.cell (by simp;omega)).trans x6,(hb7.cell (by simp;omega)).trans x8,hB7.block b3 hb3,(hb7.cell (by simp;omega)).trans c11⟩
        clear hK
        (try simp only [Act.put,List.setIfInBounds_toArray,List.set_cons_zero,List.set_cons_succ])
        refine wpAnyH_take (i:=6) (oi:=⟨some 47,_,_,_,_,_⟩) (v:=?_) rfl (by kernel_rfl) (by kernel_rfl) (by kernel_rfl) (fun _ _ _ h=>h) (Or.inl ⟨by rfl,?_⟩) (by assumption) ?_;rotate_left;(focus (intro w' hSw;(try dsimp only at hSw);go_simp;(try with_reducible rfl)));(try rotate_left);(try simp only [Act.put,List.setIfInBounds_toArray,List.set_cons_zero,List.set_cons_succ])
        refine wpAnyH_take (i:=7) (oi:=⟨some 48,_,_,_,_,_⟩) (v:=?_) rfl (by kernel_rfl) (by kernel_rfl) (by kernel_rfl) (fun _ _ _ h=>h) (Or.inl ⟨by rfl,?_⟩) (by assumption) ?_;rotate_left;(focus (intro w' hSw;(try dsimp only at hSw);go_simp;(try with_reducible rfl)));(try rotate_left);(try simp only [Act.put,List.setIfInBounds_toArray,List.set_cons_zero,List.set_cons_succ])
        refine wpAnyH_take (i:=8) (oi:=⟨some 49,_,_,_,_,_⟩) (v:=undef) rfl (by kernel_rfl) (by kernel_rfl) (by kernel_rfl) (fun _ _ _ h=>h) (Or.inr ⟨by rfl,rfl⟩) (by assumption) ?_;(try simp only [Act.put,List.setIfInBounds_toArray,List.set_cons_zero,List.set_cons_succ])
        refine wpAnyH_take (i:=9) (oi:=⟨some 50,_,_,_,_,_⟩) (v:=undef) rfl (by kernel_rfl) (by kernel_rfl) (by kernel_rfl) (fun _ _ _ h=>h) (Or.inr ⟨by rfl,rfl⟩) (by assumption) ?_;(try simp only [Act.put,List.setIfInBounds_toArray,List.set_cons_zero,List.set_cons_succ])
        refine wpAnyH_take (i:=10) (oi:=⟨some 51,_,_,_,_,_⟩) (v:=undef) rfl (by kernel_rfl) (by kernel_rfl) (by kernel_rfl) (fun _ _ _ h=>h) (Or.inr ⟨by rfl,rfl⟩) (by assumption) ?_;(try simp only [Act.put,List.setIfInBounds_toArray,List.set_cons_zero,List.set_cons_succ])
        refine wpAnyH_take (i:=11) (oi:=⟨some 52,_,_,_,_,_⟩) (v:=undef) rfl (by kernel_rfl) (by kernel_rfl) (by kernel_rfl) (fun _ _ _ h=>h) (Or.inr ⟨by rfl,rfl⟩) (by assumption) ?_;(try simp only [Act.put,List.setIfInBounds_toArray,List.set_cons_zero,List.set_cons_succ])
        refine wpAnyH_take (i:=12) (oi:=⟨some 53,_,_,_,_,_⟩) (v:=undef) rfl (by kernel_rfl) (by kernel_rfl) (by kernel_rfl) (fun _ _ _ h=>h) (Or.inr ⟨by rfl,rfl⟩) (by assumption) ?_;(try simp only [Act.put,List.setIfInBounds_toArray,List.set_cons_zero,List.set_cons_succ])
        refine wpAnyH_take (i:=13) (oi:=⟨some 54,_,_,_,_,_⟩) (v:=undef) rfl (by kernel_rfl) (by kernel_rfl) (by kernel_rfl) (fun _ _ _ h=>h) (Or.inr ⟨by rfl,rfl⟩) (by assumption) ?_;(try simp only [Act.put,List.setIfInBounds_toArray,List.set_cons_zero,List.set_cons_succ])
        refine wpAnyH_take (i:=14) (oi:=⟨some 55,_,_,_,_,_⟩) (v:=undef) rfl (by kernel_rfl) (by kernel_rfl) (by kernel_rfl) (fun _ _ _ h=>h) (Or.inr ⟨by rfl,rfl⟩) (by assumption) ?_;(try simp only [Act.put,List.setIfInBounds_toArray,List.set_cons_zero,List.set_cons_succ])
        refine wpAnyH_take (i:=15) (oi:=⟨some 56,_,_,_,_,_⟩) (v:=undef) rfl (by kernel_rfl) (by kernel_rfl) (by kernel_rfl) (fun _ _ _ h=>h) (Or.inr ⟨by rfl,rfl⟩) (by assumption) ?_;(try simp only [Act.put,List.setIfInBounds_toArray,List.set_cons_zero,List.set_cons_succ])
        refine wpAnyH_take (i:=16) (oi:=⟨some 57,_,_,_,_,_⟩) (v:=undef) rfl (by kernel_rfl) (by kernel_rfl) (by kernel_rfl) (fun _ _ _ h=>h) (Or.inr ⟨by rfl,rfl⟩) (by assumption) ?_;(try simp only [Act.put,List.setIfInBounds_toArray,List.set_cons_zero,List.set_cons_succ])
        refine wpAnyH_take (i:=17) (oi:=⟨some 58,_,_,_,_,_⟩) (v:=?_) rfl (by kernel_rfl) (by kernel_rfl) (by kernel_rfl) (fun _ _ _ h=>h) (Or.inl ⟨by rfl,?_⟩) (by assumption) ?_;rotate_left;(focus (intro w' hSw;(try dsimp only at hSw);go_simp;(try with_reducible rfl)));(try rotate_left);(try simp only [Act.put,List.setIfInBounds_toArray,List.set_cons_zero,List.set_cons_succ])
        refine wpAnyH_done (by kernel_rfl) ?_ _
        go_wp2
        go_ret
        exact ⟨ret_bool (hand_bad (x:=⟨c,hs,ds,now⟩) hlt HC.out (by simp [handB11,hok2])),hB7⟩
    · have:k=hs.length:=by omega
      subst this
      go_wp2
      go_loopw [4] (fun i wr=>∃ k:Nat,k≤ds.length∧i=.int .i64 k∧Hid ((ds.take k).all (dealB hs.length now)=true)∧(∀ o,wr.cell? ⟨w.heap.size,o,none⟩=#[Value.int .i64 c.cap,.int .i64 c.sent,.int .i64 c.got,.int .i64 c.fin,.slice a c.cells.length p,.slice b c.words.length q,.slice (some ⟨b3,o3,none⟩) hs.length r,.slice e ds.length s,.int .i64 now][o]?)∧w.heap.size<wr.heap.size∧Below w.heap.size w wr) (fun i _=>ds.length - (intOf i).toNat)
      case atStart=>exact ⟨0,Nat.zero_le _,rfl,rfl,hbx,hlt1,hB⟩
      case round =>
        clear hbx hlt1 hB hk
        obtain ⟨k,hk,rfl,hdall,hbx,hlt1,hB⟩:=hrel
        have x7:=hbx 7
        simp at x7
        by_cases hlt:k<ds.length
        · obtain h0|⟨b4,o4,rfl,hb4,hc4⟩:=H4.out
          · omega
          have cc:=fun j hj=>(hB.cell (p:=⟨b4,o4+k*7+j,none⟩) hb4).trans (hc4 k j hlt hj)
          have c0:=cc 0 (by omega)
          have c1:=cc 1 (by omega)
          have c2:=cc 2 (by omega)
          have c3:=cc 3 (by omega)
          have c4:=cc 4 (by omega)
          have c5:=cc 5 (by omega)
          have c6:=cc 6 (by omega)
          clear cc hc4
          simp only [dealF] at c0 c1 c2 c3 c4 c5 c6
          generalize hcg:ds.getD k De.zero=dd at c0 c1 c2 c3 c4 c5 c6
          simp [dvals,Array.getD] at c0 c1 c2 c3 c4 c5 c6
          have HC:=Lib.hid hcg
          clear hcg
          have x_w:=hbx
          have l_w:=hlt1
          have hl3:hs.length≤1099511627776:=by omega
          go_wp2_with (first|((go_at_call 34;refine bHit w (by exact zB) fun bb=>?_;refine (l11Task_any c hs.length now _ _ _ _ _ _ _ _ _ _ _ _ hl3 _).mono ?_;rintro _ w5 ⟨rfl,hbw5⟩;have hCw5:Below w.heap.size w w5:=bT bb hbw5;have hsw5:=hbw5.size;(try simp at hsw5);have zz:=And.intro (fun o=>hbw5.cell (p:=⟨wr.heap.size,o,none⟩) (by (try simp) <;> omega)) <| And.intro (fun o=>hbw5.frozen (p:=⟨wr.heap.size,o,none⟩) (by (try simp) <;> omega)) <| And.intro (fun o=>hbw5.cell (p:=⟨w.heap.size,o,none⟩) (by (try simp) <;> omega)) <| fun o=>hbw5.frozen (p:=⟨w.heap.size,o,none⟩) (by (try simp) <;> omega);(first|simp [go_sem,x_w,f_w,l_w] at zz|simp [go_sem,x_w,l_w] at zz|simp [go_sem] at zz|skip);(try clear x_wr f_wr);(try clear x_w f_w);obtain ⟨x_wr,f_wr,x_w,f_w⟩:=zz;(try clear l_wr);have l_wr:wr.heap.size<w5.heap.size:=(by omega);(try clear l_w);have l_w:w.heap.size<w5.heap.size:=(by omega);clear hbw5 bb))|((go_at_call 35;refine bHit w (by exact zB) fun bb=>?_;refine (sReplyOk_any _ _ _ _).mono ?_;rintro _ w6 ⟨rfl,hbw6⟩;have hCw6:Below w.heap.size w w6:=bT bb hbw6;have hsw6:=hbw6.size;(try simp at hsw6);have zz:=And.intro (fun o=>hbw6.cell (p:=⟨wr.heap.size,o,none⟩) (by (try simp) <;> omega)) <| And.intro (fun o=>hbw6.frozen (p:=⟨wr.heap.size,o,none⟩) (by (try simp) <;> omega)) <| And.intro (fun o=>hbw6.cell (p:=⟨w.heap.size,o,none⟩) (by (try simp) <;> omega)) <| fun o=>hbw6.frozen (p:=⟨w.heap.size,o,none⟩) (by (try simp) <;> omega);(first|simp [go_sem,x_wr,f_wr,x_w,f_w,l_w,l_wr] at zz|simp [go_sem,x_w,f_w,l_w] at zz|simp [go_sem,x_w,l_w] at zz|simp [go_sem] at zz|skip);(try clear x_wr f_wr);(try clear x_w f_w);obtain ⟨x_wr,f_wr,x_w,f_w⟩:=zz;(try clear l_wr);have l_wr:wr.heap.size<w6.heap.size:=(by omega);(try clear l_w);have l_w:w.heap.size<w6.heap.size:=(by omega);clear hbw6 bb))|(go_at_call 36;refine (l1In_any _ _ _ _).mono ?_;rintro _ _ ⟨rfl,rfl⟩)|(go_at_call 37;refine (l1Elem_any _ _).mono ?_;rintro _ _ ⟨rfl,rfl⟩))
          all_goals first
            | (go_ret;exact ⟨ret_bool (deal_bad (x:=⟨c,hs,ds,now⟩) hlt HC.out (by first|(simp [dealB, *];done)|(have h9:=not_true ‹(!inB dd.out 0 999)=true›;simp [dealB, *];done))),by exact zB⟩)
            | (go_roundw
               case rel=>exact ⟨k+1,by omega,by go_num,deals_snoc (x:=⟨c,hs,ds,now⟩) hlt HC.out hdall.out (by have h9:=not_false ‹(!inB dd.out 0 999)=false›;simp [dealB, *]),fun o=>by simp [x_w],by omega,by exact zB⟩
               case measure=>simp [intOf];omega)
        · have:k=ds.length:=by omega
          subst this
          go_wp2
          go_ret
          exact ⟨ret_bool (world_all HH.out hall.out hdall.out),hB⟩
theorem sWorldOk_any (x:Wo) (a b d e:Option Addr) (p q r s:Nat) (w:World) (h1:Seg w w.heap.size a x.ch.cells.length 3 (cellF x.ch.cells)) (h2:Seg w w.heap.size b x.ch.words.length 1 (intF x.ch.words)) (h3:Seg w w.heap.size d x.hands.length 14 (handF x.hands)) (h4:Seg w w.heap.size e x.deals.length 7 (dealF x.deals)) (m3:x.hands.length≤1099511627776) (m4:x.deals.length≤1099511627776) :
    Calls Tryz.prog 16 #[.agg #[.int .i64 x.ch.cap,.int .i64 x.ch.sent,.int .i64 x.ch.got,.int .i64 x.ch.fin,.slice a x.ch.cells.length p,.slice b x.ch.words.length q,.slice d x.hands.length r,.slice e x.deals.length s,.int .i64 x.now]] w fun r w'=>r=.returned (.bool (worldOk x))∧Below w.heap.size w w':=by
  cases h:worldHead x with
  | false=>exact sWorldOk_no x a b d e p q r s w h1 h2 m3 m4 h
  | true=>exact sWorldOk_yes x.ch x.hands x.deals x.now a b d e p q r s w h1 h2 h3 h4 h
end Go.Proofs.YtmnpgkcdfielbaaGreat
set_option linter.unusedSimpArgs false
set_option linter.unusedVariables false
namespace Go.Proofs.YtmnpgkcdfielbaaGreat
open Go.RowKit
set_option linter.unusedSimpArgs false
attribute [local go_sem ↓] zeroHand toLHand toVHand storeHand storeHandC
theorem hands_yes {hs:List Ha} {now:Int} {k:Nat} {h:Ha} (hk:k<hs.length) (hc:hs.getD k Ha.zero=h) (e:(hs.take k).all (handB11 now)=true) (e1:handB11 now h=true):(hs.take (k+1)).all (handB11 now)=true:=by
  rw [take_snocH _ k Ha.zero hk,hc,List.all_append,e];simp [e1]
theorem hands_no {hs:List Ha} {now:Int} {k:Nat} {h:Ha} (hk:k<hs.length) (hc:hs.getD k Ha.zero=h) (e:handB11 now h=false):hs.all (handB11 now)=false:=by
  rw [List.all_eq_false]
  refine ⟨hs[k],List.getElem_mem hk,?_⟩
  rw [← hc] at e
  simpa [List.getD,List.getElem?_eq_getElem hk] using e
def handsB (hs:List Ha) (now:Int):Bool:=decide (1≤hs.length) && (decide (hs.length≤6) && hs.all (handB11 now))
theorem handB_y {now:Int} {h:Ha} (e:handOk h=true):Value.bool (decide (now<h.beg))=.bool (!handB11 now h):=by
  by_cases h2:now<h.beg <;> simp [handB11,e,h2] <;> omega
theorem handB_n {now:Int} {h:Ha} (e:handOk h=false):Value.bool true=.bool (!handB11 now h):=by simp [handB11,e]
set_option maxRecDepth 100000 in
set_option maxHeartbeats 4000000 in
theorem handsOk_any (hs:List Ha) (now:Int) (B:Nat) (d:Option Addr) (r:Nat) (w:World) (x6:w.cell? ⟨B,6,none⟩=some (.slice d hs.length r)) (x8:w.cell? ⟨B,8,none⟩=some (.int .i64 now)) (lB:B<w.heap.size) (h3:Seg w w.heap.size d hs.length 14 (handF hs)) (m:hs.length≤1099511627776) :
    Calls Tryz.prog 45 #[.pointer (some ⟨B,0,none⟩)] w fun r w'=>r=.returned (.bool (handsB hs now))∧Below w.heap.size w w':=by
  by_cases i2:1≤hs.length
  case neg =>
    have g1:decide ((hs.length:Int)<1)=true:=by simp;omega
    have e0:handsB hs now=false:=by simp [handsB];omega
    rw [e0]
    clear e0 i2
    go_enter Tryz.func45,Tryz.ntmps45
    go_wp2
    go_ret
    exact ⟨rfl,by exact zB⟩
  have g1:decide ((hs.length:Int)<1)=false:=by simp;omega
  by_cases i3:hs.length≤6
  case neg =>
    have g2:decide (6<(hs.length:Int))=true:=by simp;omega
    have e0:handsB hs now=false:=by simp [handsB];omega
    rw [e0]
    clear e0 i3
    go_enter Tryz.func45,Tryz.ntmps45
    go_wp2
    go_ret
    exact ⟨rfl,by exact zB⟩
  have g2:decide (6<(hs.length:Int))=false:=by simp;omega
  have e0:handsB hs now=hs.all (handB11 now):=by simp [handsB,i2,i3]
  rw [e0]
  clear e0
  obtain ⟨b3,o3,rfl,hb3,hc3⟩:∃ b o,d=some ⟨b,o,none⟩∧b<w.heap.size∧Hid (∀ i j,i<hs.length→j<14→w.cell? ⟨b,o+i*14+j,none⟩=some (handF hs i j)):=by
    rcases h3 with h0|h0
    · exact absurd h0 (by omega)
    · exact h0
  have I2:=Lib.hid i2
  clear h3 i2
  go_enter Tryz.func45,Tryz.ntmps45
  go_wp2_with fail
  go_loopw [24] (fun i wr=>∃ k:Nat,k≤hs.length∧i=.int .i64 k∧Hid ((hs.take k).all (handB11 now)=true)∧Below w.heap.size w wr) (fun i _=>hs.length - (intOf i).toNat)
  case atStart=>exact ⟨0,Nat.zero_le _,rfl,rfl,by exact zB⟩
  case round =>
    obtain ⟨k,hk,rfl,hall,hB⟩:=hrel
    by_cases hlt:k<hs.length
    · have cc:=fun j hj=>hc3.out k j hlt hj
      simp only [handF] at cc
      generalize hcg:hs.getD k Ha.zero=hx at cc
      have HC:=Lib.hid hcg
      clear hcg
      have hLd:∀ W:World,hp W b3=hp w b3→(LHand (.pointer (some ⟨b3,o3+k*14,none⟩))).run Tryz.prog W=.ok (.agg (hvals hx)) W:=fun W e=>ldHandE hx fun j hj=>by rw [← cc j hj];exact World.cell?_of_block e
      clear cc
      have z3:hp wr b3=hp w b3:=hB.block b3 hb3
      have y8:=(hB.cell (p:=⟨B,8,none⟩) lB).trans x8
      have hk0:(0:Int)≤(k:Int):=by omega
      have hk1:(k:Int)<(hs.length:Int):=by omega
      -- REGION
      go_wp2_with fail
      generalize hw5:World.alloc wr _=w5
      have z_h:hp w5 wr.heap.size=some (.cells (hvals hx) 70):=by rw [← hw5];exact heap_alloc_new _ _
      have hC5:Below wr.heap.size wr w5:=by rw [← hw5];exact belowAlloc _ _
      clear hw5
      have y5:=(hC5.cell (p:=⟨B,8,none⟩) (by have:=hB.size;simp;omega)).trans y8
      clear y8
      have y8:=y5
      clear y5
      have lB5:B<w5.heap.size:=by have:=hB.size;have:=hC5.size;omega
      clear hLd z3 hk0 hk1 hc3 hb3
      refine wp_region_inv [[],[0],[0,1],[0,1,2],[0,1,2,3],[0,1,2,3,4],[0,1,2,3],[0,1,2,3,6],[0,1,2,3,6,7],[0,1,2,3,6,7,8],qB [8,9],qB [8,9,10]] [28,29,30,31,32,33,34,35,36,37,38,39] (fun l s wx=>(Below w5.heap.size w5 wx)∧(l 0=true→s 28=.agg (hvals hx))∧(l 1=true→s 29=.bool (handOk hx))∧(l 2=true→s 30=.bool (!handOk hx))∧(l 3=true→s 31=.bool (!handOk hx))∧(l 4=true→handOk hx=true→s 32=.pointer (some ⟨wr.heap.size,11,none⟩))∧(l 5=true→handOk hx=true→s 33=.int .i64 hx.beg)∧(l 6=true→handOk hx=true→s 34=.pointer (some ⟨B,0,none⟩))∧(l 7=true→handOk hx=true→s 35=.pointer (some ⟨B,0,none⟩))∧(l 8=true→handOk hx=true→s 36=.pointer (some ⟨B,8,none⟩))∧(l 9=true→handOk hx=true→s 37=.int .i64 now)∧(l 10=true→handOk hx=true→s 38=.bool (decide (now<hx.beg)))∧(l 11=true→s 39=.bool (!handB11 now hx))) (by kernel_rfl) (by kernel_rfl) (by kernel_rfl) (fun s=>by (simp only [fill,fillA,List.setIfInBounds_toArray,List.set_cons_zero,List.set_cons_succ];rfl)) (fun s=>⟨(Below.refl _ _).drew,nB,nB,nB,nB,nB,nB,nB,nB,nB,nB,nB,nB⟩) ?_ ?_
      refine ⟨?_,?_,?_,?_,?_,?_,?_,?_,?_,?_,?_,?_,trivial⟩;rotate_left 12
      · intro l s w6 hall2 hf
        have ec:=(jC (jD hf)) (hall2 11 rfl)
        have hb6:Below w5.heap.size w5 w6:=hf.1
        simp only [ec]
        clear ec hf hall2
        have hB6:Below w.heap.size w w6:=bT hB (hC5.trans (hb6.mono hC5.size))
        cases hG:handB11 now hx with
        | true =>
          go_wp2
          go_roundw
          case rel=>exact ⟨k+1,by omega,by go_num,hands_yes hlt HC.out hall.out hG,hB6⟩
          case measure=>simp [intOf];omega
        | false =>
          go_wp2
          go_ret
          exact ⟨ret_bool (hands_no hlt HC.out hG).symm,hB6⟩
      · intro l s wx hl hd hn hf0 K hK
        have hf:=Lib.hid hf0
        clear hf0
        have z:=hpS z_h hf.out.1
        go_simp
        refine hK.out (upd s 28 (.agg (hvals hx))) _ _ (by simp [upd_at] <;> rfl) (kA (kX (fun _=>rfl) id) hf.out)
      · intro l s wx hl hd hn hf0 K hK
        have hf:=Lib.hid hf0
        clear hf0
        have e0:=(hf.out.2.1 (hd 0 rfl))
        go_simp
        go_at_call 64
        refine (handOk_any hx _).mono ?_
        rintro _ wy ⟨rfl,hE⟩
        refine hK.out (upd s 29 (.bool (handOk hx))) _ _ (by simp [upd_at,e0] <;> rfl) (kX (bT hf.out.1 hE) (kA (kX (fun _=>rfl) (kX (nU (hn 2 rfl)) (kX (nU (hn 3 rfl)) (kX (nU (hn 4 rfl)) (kX (nU (hn 5 rfl)) (kX (nU (hn 6 rfl)) (kX (nU (hn 7 rfl)) (kX (nU (hn 8 rfl)) (kX (nU (hn 9 rfl)) (kX (nU (hn 10 rfl)) (fun _=>nU (hn 11 rfl))))))))))))) hf.out)
      · intro l s wx hl hd hn hf0 K hK
        have hf:=Lib.hid hf0
        clear hf0
        have e1:=(hf.out.2.2.1 (hd 1 rfl))
        go_simp
        refine hK.out (upd s 30 (.bool (!handOk hx))) _ _ (by simp [upd_at,e1] <;> rfl) (kB (kA (kX (fun _=>rfl) id)) hf.out)
      · intro l s wx hl hd hn hf0 K hK
        have hf:=Lib.hid hf0
        clear hf0
        have e2:=(hf.out.2.2.2.1 (hd 2 rfl))
        go_simp
        refine hK.out (upd s 31 (.bool (!handOk hx))) _ _ (by simp [upd_at,e2] <;> rfl) (kC (kX (fun _=>rfl) id) hf.out)
      · intro l s wx hl hd hn hf0 K hK
        have hf:=Lib.hid hf0
        clear hf0
        have e3:=(hf.out.2.2.2.2.1 (hd 3 rfl))
        cases hG:(handOk hx) with
        | true =>
          rw [hG] at e3
          go_simp
          refine hK.out (upd s 32 (.pointer (some ⟨wr.heap.size,11,none⟩))) _ _ (by simp [upd_at,e3] <;> rfl) (kC (kA (kX (fun _ _=>rfl) id)) hf.out)
        | false =>
          rw [hG] at e3
          go_simp
          refine hK.out (upd s 32 (undef)) _ _ (by simp [upd_at,e3] <;> rfl) (kC (kA (kX (fun _ h=>Bool.noConfusion (h.symm.trans hG)) id)) hf.out)
      · intro l s wx hl hd hn hf0 K hK
        have hf:=Lib.hid hf0
        clear hf0
        have e3:=(hf.out.2.2.2.2.1 (hd 3 rfl))
        cases hG:(handOk hx) with
        | true =>
          rw [hG] at e3
          have e4:=((jC hf.out).2.1 (hd 4 rfl)) hG
          have z:=(bO (hpS z_h hf.out.1)).1 11
          go_simp
          refine hK.out (upd s 33 (.int .i64 hx.beg)) _ _ (by simp [upd_at,e3,e4] <;> rfl) (kC (kB (kX (fun _ _=>rfl) id)) hf.out)
        | false =>
          rw [hG] at e3
          go_simp
          refine hK.out (upd s 33 (undef)) _ _ (by simp [upd_at,e3] <;> rfl) (kC (kB (kX (fun _ h=>Bool.noConfusion (h.symm.trans hG)) id)) hf.out)
      · intro l s wx hl hd hn hf0 K hK
        have hf:=Lib.hid hf0
        clear hf0
        have e3:=(hf.out.2.2.2.2.1 (hd 3 rfl))
        cases hG:(handOk hx) with
        | true =>
          rw [hG] at e3
          go_simp
          refine hK.out (upd s 34 (.pointer (some ⟨B,0,none⟩))) _ _ (by simp [upd_at,e3] <;> rfl) (kC (kB (kA (kX (fun _ _=>rfl) id))) hf.out)
        | false =>
          rw [hG] at e3
          go_simp
          refine hK.out (upd s 34 (undef)) _ _ (by simp [upd_at,e3] <;> rfl) (kC (kB (kA (kX (fun _ h=>Bool.noConfusion (h.symm.trans hG)) id))) hf.out)
      · intro l s wx hl hd hn hf0 K hK
        have hf:=Lib.hid hf0
        clear hf0
        have e3:=(hf.out.2.2.2.2.1 (hd 3 rfl))
        cases hG:(handOk hx) with
        | true =>
          rw [hG] at e3
          have e6:=((jC hf.out).2.2.2.1 (hd 6 rfl)) hG
          go_simp
          refine hK.out (upd s 35 (.pointer (some ⟨B,0,none⟩))) _ _ (by simp [upd_at,e3,e6] <;> rfl) (kD (kX (fun _ _=>rfl) id) hf.out)
        | false =>
          rw [hG] at e3
          go_simp
          refine hK.out (upd s 35 (undef)) _ _ (by simp [upd_at,e3] <;> rfl) (kD (kX (fun _ h=>Bool.noConfusion (h.symm.trans hG)) id) hf.out)
      · intro l s wx hl hd hn hf0 K hK
        have hf:=Lib.hid hf0
        clear hf0
        have e3:=(hf.out.2.2.2.2.1 (hd 3 rfl))
        cases hG:(handOk hx) with
        | true =>
          rw [hG] at e3
          have e7:=((jD hf.out).1 (hd 7 rfl)) hG
          go_simp
          refine hK.out (upd s 36 (.pointer (some ⟨B,8,none⟩))) _ _ (by simp [upd_at,e3,e7] <;> rfl) (kD (kA (kX (fun _ _=>rfl) id)) hf.out)
        | false =>
          rw [hG] at e3
          go_simp
          refine hK.out (upd s 36 (undef)) _ _ (by simp [upd_at,e3] <;> rfl) (kD (kA (kX (fun _ h=>Bool.noConfusion (h.symm.trans hG)) id)) hf.out)
      · intro l s wx hl hd hn hf0 K hK
        have hf:=Lib.hid hf0
        clear hf0
        have e3:=(hf.out.2.2.2.2.1 (hd 3 rfl))
        cases hG:(handOk hx) with
        | true =>
          rw [hG] at e3
          have e8:=((jD hf.out).2.1 (hd 8 rfl)) hG
          have z:=((hf.out.1).cell (p:=⟨B,8,none⟩) (by omega)).trans y8
          go_simp
          refine hK.out (upd s 37 (.int .i64 now)) _ _ (by simp [upd_at,e3,e8] <;> rfl) (kD (kB (kX (fun _ _=>rfl) id)) hf.out)
        | false =>
          rw [hG] at e3
          go_simp
          refine hK.out (upd s 37 (undef)) _ _ (by simp [upd_at,e3] <;> rfl) (kD (kB (kX (fun _ h=>Bool.noConfusion (h.symm.trans hG)) id)) hf.out)
      · intro l s wx hl hd hn hf0 K hK
        have hf:=Lib.hid hf0
        clear hf0
        have e3:=(hf.out.2.2.2.2.1 (hd 3 rfl))
        cases hG:(handOk hx) with
        | true =>
          rw [hG] at e3
          have e5:=((jC hf.out).2.2.1 (hd 5 rfl)) hG
          have e9:=((jD hf.out).2.2.1 (hd 9 rfl)) hG
          go_simp
          refine hK.out (upd s 38 (.bool (decide (now<hx.beg)))) _ _ (by simp [upd_at,e3,e5,e9] <;> rfl) (kD (kB (kA (kX (fun _ _=>rfl) id))) hf.out)
        | false =>
          rw [hG] at e3
          go_simp
          refine hK.out (upd s 38 (undef)) _ _ (by simp [upd_at,e3] <;> rfl) (kD (kB (kA (kX (fun _ h=>Bool.noConfusion (h.symm.trans hG)) id))) hf.out)
      · intro l s wx hl hd hn hf0 K hK
        have hf:=Lib.hid hf0
        clear hf0
        have e3:=(hf.out.2.2.2.2.1 (hd 3 rfl))
        have e10:=((jD hf.out).2.2.2.1 (hd 10 rfl))
        cases hG:(handOk hx) with
        | true =>
          rw [hG] at e3
          replace e10:=e10 hG
          go_simp
          refine hK.out (upd s 39 (.bool (decide (now<hx.beg)))) _ _ (by simp [upd_at,e3,e10] <;> rfl) (kD (kC (fun _=>fun _=>by rw [show (upd s 39 (.bool (decide (now<hx.beg)))) 39=.bool (decide (now<hx.beg)) from rfl,handB_y hG])) hf.out)
        | false =>
          clear e10
          rw [hG] at e3
          go_simp
          refine hK.out (upd s 39 (.bool true)) _ _ (by simp [upd_at,e3] <;> rfl) (kD (kC (fun _=>fun _=>by rw [show (upd s 39 (.bool true)) 39=.bool true from rfl,handB_n hG])) hf.out)
    · have:k=hs.length:=by omega
      subst this
      have h1:=hall.out
      rw [List.take_length] at h1
      go_wp2
      go_ret
      exact ⟨ret_bool h1.symm,hB⟩
end Go.Proofs.YtmnpgkcdfielbaaGreat
set_option linter.unusedSimpArgs false
set_option linter.unusedVariables false
namespace Go.Proofs.YtmnpgkcdfielbaaGreat
open Go.RowKit
set_option linter.unusedSimpArgs false
theorem dealsL_yes {ds:List De} {n:Nat} {now:Int} {k:Nat} {h:De} (hk:k<ds.length) (hc:ds.getD k De.zero=h) (e:(ds.take k).all (dealB n now)=true) (e1:dealB n now h=true):(ds.take (k+1)).all (dealB n now)=true:=by
  rw [take_snocH _ k De.zero hk,hc,List.all_append,e];simp [e1]
theorem dealsL_no {ds:List De} {n:Nat} {now:Int} {k:Nat} {h:De} (hk:k<ds.length) (hc:ds.getD k De.zero=h) (e:dealB n now h=false):ds.all (dealB n now)=false:=by
  rw [List.all_eq_false]
  refine ⟨ds[k],List.getElem_mem hk,?_⟩
  rw [← hc] at e
  simpa [List.getD,List.getElem?_eq_getElem hk] using e
def dealsB (ds:List De) (n:Nat) (now:Int):Bool:=decide (ds.length≤1000) && ds.all (dealB n now)
theorem pickB {a:Bool} {b:Bool} (e:a=true):Value.bool (!b)=.bool (!(a && b)):=by rw [e];rfl
theorem pickN {a:Bool} {b:Bool} (e:a=false):Value.bool true=.bool (!(a && b)):=by rw [e];rfl
set_option maxRecDepth 100000 in
set_option maxHeartbeats 4000000 in
theorem dealsOk_any (ds:List De) (n:Nat) (now:Int) (B:Nat) (d e:Option Addr) (r s:Nat) (w:World) (x6:w.cell? ⟨B,6,none⟩=some (.slice d n r)) (x7:w.cell? ⟨B,7,none⟩=some (.slice e ds.length s)) (x8:w.cell? ⟨B,8,none⟩=some (.int .i64 now)) (lB:B<w.heap.size) (h4:Seg w w.heap.size e ds.length 7 (dealF ds)) (m:ds.length≤1099511627776) (mn:n≤1099511627776) :
    Calls Tryz.prog 46 #[.pointer (some ⟨B,0,none⟩)] w fun r w'=>r=.returned (.bool (dealsB ds n now))∧Below w.heap.size w w':=by
  by_cases i3:ds.length≤1000
  case neg =>
    have g2:decide (1000<(ds.length:Int))=true:=by simp;omega
    have e0:dealsB ds n now=false:=by simp [dealsB];omega
    rw [e0]
    clear e0 i3
    go_enter Tryz.func46,Tryz.ntmps46
    go_wp2
    go_ret
    exact ⟨rfl,by exact zB⟩
  have g2:decide (1000<(ds.length:Int))=false:=by simp;omega
  have e0:dealsB ds n now=ds.all (dealB n now):=by simp [dealsB,i3]
  rw [e0]
  clear e0
  have H4:=Lib.hid h4
  clear h4
  go_enter Tryz.func46,Tryz.ntmps46
  go_wp2_with fail
  go_loopw [16] (fun i wr=>∃ k:Nat,k≤ds.length∧i=.int .i64 k∧Hid ((ds.take k).all (dealB n now)=true)∧Below w.heap.size w wr) (fun i _=>ds.length - (intOf i).toNat)
  case atStart=>exact ⟨0,Nat.zero_le _,rfl,rfl,by exact zB⟩
  case round =>
    obtain ⟨k,hk,rfl,hall,hB⟩:=hrel
    by_cases hlt:k<ds.length
    · obtain h0|⟨b4,o4,rfl,hb4,hc4⟩:=H4.out
      · omega
      have cc:=fun j hj=>(hB.cell (p:=⟨b4,o4+k*7+j,none⟩) hb4).trans (hc4 k j hlt hj)
      have c0:=cc 0 (by omega)
      have c1:=cc 1 (by omega)
      have c2:=cc 2 (by omega)
      have c3:=cc 3 (by omega)
      have c4:=cc 4 (by omega)
      have c5:=cc 5 (by omega)
      have c6:=cc 6 (by omega)
      clear cc hc4
      simp only [dealF] at c0 c1 c2 c3 c4 c5 c6
      generalize hcg:ds.getD k De.zero=dd at c0 c1 c2 c3 c4 c5 c6
      simp [dvals,Array.getD] at c0 c1 c2 c3 c4 c5 c6
      have HC:=Lib.hid hcg
      clear hcg
      have y6:=(hB.cell (p:=⟨B,6,none⟩) lB).trans x6
      have y8:=(hB.cell (p:=⟨B,8,none⟩) lB).trans x8
      have hk0:(0:Int)≤(k:Int):=by omega
      have hk1:(k:Int)<(ds.length:Int):=by omega
      -- REGION
      go_wp2_with fail
      generalize hw5:World.alloc wr _=w5
      have z_h:hp w5 wr.heap.size=some (.cells #[.int .i64 dd.task,.int .i64 dd.code,.int .i64 dd.elem,.int .i64 dd.beg,.int .i64 dd.fin,.int .i64 dd.reply,.int .i64 dd.out] 72):=by rw [← hw5];exact heap_alloc_new _ _
      have hC5:Below wr.heap.size wr w5:=by rw [← hw5];exact belowAlloc _ _
      clear hw5
      have hsr:=hB.size
      replace y6:=(hC5.cell (p:=⟨B,6,none⟩) (by simp;omega)).trans y6
      replace y8:=(hC5.cell (p:=⟨B,8,none⟩) (by simp;omega)).trans y8
      have lB5:B<w5.heap.size:=by have:=hC5.size;omega
      obtain ⟨q0,hq0⟩:∃ q,Hid (taskB n dd.task=q):=⟨_,rfl⟩
      obtain ⟨q1,hq1⟩:∃ q,Hid (inB dd.beg 0 now=q):=⟨_,rfl⟩
      obtain ⟨q2,hq2⟩:∃ q,Hid (inB dd.fin 0 now=q):=⟨_,rfl⟩
      obtain ⟨q3,hq3⟩:∃ q,Hid (replyOk dd.code dd.elem dd.reply=q):=⟨_,rfl⟩
      obtain ⟨q4,hq4⟩:∃ q,Hid (inB dd.out 0 999=q):=⟨_,rfl⟩
      have hQ:dealB n now dd=((((q0 && q1) && q2) && q3) && q4):=by simp only [dealB,hq0.out,hq1.out,hq2.out,hq3.out,hq4.out];cases q0 <;> cases q1 <;> cases q2 <;> cases q3 <;> cases q4 <;> rfl
      have HQ:=Lib.hid hQ
      clear hQ c0 c1 c2 c3 c4 c5 c6 hk0 hk1 hb4
      refine wp_region_inv [[],[],[1],[0,1,2],[0,1,2,3],[0,1,2,3,4],[0,1,2,3,4,5],[0,1,2,3,4,5,6],[0,1,2,3,4,5],[0,1,2,3,4,5,8],[0,1,2,3,4,5,8,9],[0,1,2,3,4,5,8,9,10],qB [8,9,10,11],qB [8,9,10,11,12],qB [8,9,10,11,12,13],qB [8,9,10,11,12,13,14],qC [],qC [16],qC [],qC [18],qC [18,19],qC [18,19,20],qC [16,17,18,19,20,21],qC [16,17,18,19,20,21,22],qD [],qD [24],qD [24,25],qD [24,25,26],qD [24,25],qD [24,25,28],qD [24,25,26,27,28,29],qD [24,25,26,27,28,29,30],qE [],qE [32],qE [32,33],qE [32,33,34],qE [32,33,34,35],qE [32,33,34,35,36],qE [32,33,34,35,36,37]] [20,21,22,23,24,25,26,27,28,29,30,31,32,33,34,35,36,37,38,39,40,41,42,43,44,45,46,47,48,49,50,51,52,53,54,55,56,57,58] (fun l s wx=>(Below w5.heap.size w5 wx)∧(l 0=true→s 20=.pointer (some ⟨B,0,none⟩))∧(l 1=true→s 21=.pointer (some ⟨wr.heap.size,0,none⟩))∧(l 2=true→s 22=.int .i64 dd.task)∧(l 3=true→s 23=.bool q0)∧(l 4=true→s 24=.bool (!q0))∧(l 5=true→s 25=.bool (!q0))∧(l 6=true→q0=true→s 26=.pointer (some ⟨wr.heap.size,3,none⟩))∧(l 7=true→q0=true→s 27=.int .i64 dd.beg)∧(l 8=true→q0=true→s 28=.pointer (some ⟨B,0,none⟩))∧(l 9=true→q0=true→s 29=.pointer (some ⟨B,0,none⟩))∧(l 10=true→q0=true→s 30=.pointer (some ⟨B,8,none⟩))∧(l 11=true→q0=true→s 31=.int .i64 now)∧(l 12=true→q0=true→s 32=.bool q1)∧(l 13=true→q0=true→s 33=.bool (!q1))∧(l 14=true→s 34=.bool (!(q0 && q1)))∧(l 15=true→s 35=.bool (!(q0 && q1)))∧(l 16=true→(q0 && q1)=true→s 36=.pointer (some ⟨wr.heap.size,4,none⟩))∧(l 17=true→(q0 && q1)=true→s 37=.int .i64 dd.fin)∧(l 18=true→(q0 && q1)=true→s 38=.pointer (some ⟨B,0,none⟩))∧(l 19=true→(q0 && q1)=true→s 39=.pointer (some ⟨B,0,none⟩))∧(l 20=true→(q0 && q1)=true→s 40=.pointer (some ⟨B,8,none⟩))∧(l 21=true→(q0 && q1)=true→s 41=.int .i64 now)∧(l 22=true→(q0 && q1)=true→s 42=.bool q2)∧(l 23=true→(q0 && q1)=true→s 43=.bool (!q2))∧(l 24=true→s 44=.bool (!((q0 && q1) && q2)))∧(l 25=true→s 45=.bool (!((q0 && q1) && q2)))∧(l 26=true→((q0 && q1) && q2)=true→s 46=.pointer (some ⟨wr.heap.size,1,none⟩))∧(l 27=true→((q0 && q1) && q2)=true→s 47=.agg #[.int .i64 dd.code,.int .i64 dd.elem])∧(l 28=true→((q0 && q1) && q2)=true→s 48=.pointer (some ⟨wr.heap.size,5,none⟩))∧(l 29=true→((q0 && q1) && q2)=true→s 49=.int .i64 dd.reply)∧(l 30=true→((q0 && q1) && q2)=true→s 50=.bool q3)∧(l 31=true→((q0 && q1) && q2)=true→s 51=.bool (!q3))∧(l 32=true→s 52=.bool (!(((q0 && q1) && q2) && q3)))∧(l 33=true→s 53=.bool (!(((q0 && q1) && q2) && q3)))∧(l 34=true→(((q0 && q1) && q2) && q3)=true→s 54=.pointer (some ⟨wr.heap.size,6,none⟩))∧(l 35=true→(((q0 && q1) && q2) && q3)=true→s 55=.int .i64 dd.out)∧(l 36=true→(((q0 && q1) && q2) && q3)=true→s 56=.bool q4)∧(l 37=true→(((q0 && q1) && q2) && q3)=true→s 57=.bool (!q4))∧(l 38=true→s 58=.bool (!((((q0 && q1) && q2) && q3) && q4)))) (by kernel_rfl) (by kernel_rfl) (by kernel_rfl) (fun s=>by (simp only [fill,fillA,List.setIfInBounds_toArray,List.set_cons_zero,List.set_cons_succ];rfl)) (fun s=>⟨(Below.refl _ _).drew,nB,nB,nB,nB,nB,nB,nB,nB,nB,nB,nB,nB,nB,nB,nB,nB,nB,nB,nB,nB,nB,nB,nB,nB,nB,nB,nB,nB,nB,nB,nB,nB,nB,nB,nB,nB,nB,nB,nB⟩) ?_ ?_
      refine ⟨?_,?_,?_,?_,?_,?_,?_,?_,?_,?_,?_,?_,?_,?_,?_,?_,?_,?_,?_,?_,?_,?_,?_,?_,?_,?_,?_,?_,?_,?_,?_,?_,?_,?_,?_,?_,?_,?_,?_,trivial⟩;rotate_left 39
      · intro l s w6 hall2 hf
        have ec:=(jC (jE (jE hf))).2.2.2 (hall2 38 rfl)
        have hb6:Below w5.heap.size w5 w6:=hf.1
        simp only [ec]
        clear ec hf hall2
        have hB6:Below w.heap.size w w6:=bT hB (hC5.trans (hb6.mono hC5.size))
        cases hG:((((q0 && q1) && q2) && q3) && q4) with
        | true =>
          go_wp2
          go_roundw
          case rel=>exact ⟨k+1,by omega,by go_num,dealsL_yes hlt HC.out hall.out (HQ.out.trans hG),hB6⟩
          case measure=>simp [intOf];omega
        | false =>
          go_wp2
          go_ret
          exact ⟨ret_bool (dealsL_no hlt HC.out (HQ.out.trans hG)).symm,hB6⟩
      · intro l s wx hl hd hn hf0 K hK
        have hf:=Lib.hid hf0
        clear hf0
        go_simp
        refine hK.out (upd s 20 (.pointer (some ⟨B,0,none⟩))) _ _ (by simp [upd_at] <;> rfl) (kA (kX (fun _=>rfl) id) hf.out)
      · intro l s wx hl hd hn hf0 K hK
        have hf:=Lib.hid hf0
        clear hf0
        go_simp
        refine hK.out (upd s 21 (.pointer (some ⟨wr.heap.size,0,none⟩))) _ _ (by simp [upd_at] <;> rfl) (kB (kX (fun _=>rfl) id) hf.out)
      · intro l s wx hl hd hn hf0 K hK
        have hf:=Lib.hid hf0
        clear hf0
        have e1:=(hf.out.2.2.1 (hd 1 rfl))
        have z:=(bO (hpS z_h hf.out.1)).1 0
        go_simp
        refine hK.out (upd s 22 (.int .i64 dd.task)) _ _ (by simp [upd_at,e1] <;> rfl) (kB (kA (kX (fun _=>rfl) id)) hf.out)
      · intro l s wx hl hd hn hf0 K hK
        have hf:=Lib.hid hf0
        clear hf0
        have e0:=(hf.out.2.1 (hd 0 rfl))
        have e2:=(hf.out.2.2.2.1 (hd 2 rfl))
        have z:=((hf.out.1).cell (p:=⟨B,6,none⟩) (by omega)).trans y6
        go_simp
        go_at_call 65
        refine (isTask_any n dd.task B d r _ z mn).mono ?_
        rintro _ _ ⟨rfl,rfl⟩
        rw [hq0.out]
        refine hK.out (upd s 23 (.bool q0)) _ _ (by simp [upd_at,e0,e2] <;> rfl) (kC (kX (fun _=>rfl) id) hf.out)
      · intro l s wx hl hd hn hf0 K hK
        have hf:=Lib.hid hf0
        clear hf0
        have e3:=(hf.out.2.2.2.2.1 (hd 3 rfl))
        go_simp
        refine hK.out (upd s 24 (.bool (!q0))) _ _ (by simp [upd_at,e3] <;> rfl) (kC (kA (kX (fun _=>rfl) id)) hf.out)
      · intro l s wx hl hd hn hf0 K hK
        have hf:=Lib.hid hf0
        clear hf0
        have e4:=((jC hf.out).2.1 (hd 4 rfl))
        go_simp
        refine hK.out (upd s 25 (.bool (!q0))) _ _ (by simp [upd_at,e4] <;> rfl) (kC (kB (kX (fun _=>rfl) id)) hf.out)
      · intro l s wx hl hd hn hf0 K hK
        have hf:=Lib.hid hf0
        clear hf0
        have e5:=((jC hf.out).2.2.1 (hd 5 rfl))
        cases hG:(q0) with
        | true =>
          rw [hG] at e5
          go_simp
          refine hK.out (upd s 26 (.pointer (some ⟨wr.heap.size,3,none⟩))) _ _ (by simp [upd_at,e5] <;> rfl) (kC (kB (kA (kX (fun _ _=>rfl) id))) hf.out)
        | false =>
          rw [hG] at e5
          go_simp
          refine hK.out (upd s 26 (undef)) _ _ (by simp [upd_at,e5] <;> rfl) (kC (kB (kA (kX (fun _ h=>Bool.noConfusion (h.symm.trans hG)) id))) hf.out)
      · intro l s wx hl hd hn hf0 K hK
        have hf:=Lib.hid hf0
        clear hf0
        have e5:=((jC hf.out).2.2.1 (hd 5 rfl))
        cases hG:(q0) with
        | true =>
          rw [hG] at e5
          have e6:=((jC hf.out).2.2.2.1 (hd 6 rfl)) hG
          have z:=(bO (hpS z_h hf.out.1)).1 3
          go_simp
          refine hK.out (upd s 27 (.int .i64 dd.beg)) _ _ (by simp [upd_at,e5,e6] <;> rfl) (kD (kX (fun _ _=>rfl) id) hf.out)
        | false =>
          rw [hG] at e5
          go_simp
          refine hK.out (upd s 27 (undef)) _ _ (by simp [upd_at,e5] <;> rfl) (kD (kX (fun _ h=>Bool.noConfusion (h.symm.trans hG)) id) hf.out)
      · intro l s wx hl hd hn hf0 K hK
        have hf:=Lib.hid hf0
        clear hf0
        have e5:=((jC hf.out).2.2.1 (hd 5 rfl))
        cases hG:(q0) with
        | true =>
          rw [hG] at e5
          go_simp
          refine hK.out (upd s 28 (.pointer (some ⟨B,0,none⟩))) _ _ (by simp [upd_at,e5] <;> rfl) (kD (kA (kX (fun _ _=>rfl) id)) hf.out)
        | false =>
          rw [hG] at e5
          go_simp
          refine hK.out (upd s 28 (undef)) _ _ (by simp [upd_at,e5] <;> rfl) (kD (kA (kX (fun _ h=>Bool.noConfusion (h.symm.trans hG)) id)) hf.out)
      · intro l s wx hl hd hn hf0 K hK
        have hf:=Lib.hid hf0
        clear hf0
        have e5:=((jC hf.out).2.2.1 (hd 5 rfl))
        cases hG:(q0) with
        | true =>
          rw [hG] at e5
          have e8:=((jD hf.out).2.1 (hd 8 rfl)) hG
          go_simp
          refine hK.out (upd s 29 (.pointer (some ⟨B,0,none⟩))) _ _ (by simp [upd_at,e5,e8] <;> rfl) (kD (kB (kX (fun _ _=>rfl) id)) hf.out)
        | false =>
          rw [hG] at e5
          go_simp
          refine hK.out (upd s 29 (undef)) _ _ (by simp [upd_at,e5] <;> rfl) (kD (kB (kX (fun _ h=>Bool.noConfusion (h.symm.trans hG)) id)) hf.out)
      · intro l s wx hl hd hn hf0 K hK
        have hf:=Lib.hid hf0
        clear hf0
        have e5:=((jC hf.out).2.2.1 (hd 5 rfl))
        cases hG:(q0) with
        | true =>
          rw [hG] at e5
          have e9:=((jD hf.out).2.2.1 (hd 9 rfl)) hG
          go_simp
          refine hK.out (upd s 30 (.pointer (some ⟨B,8,none⟩))) _ _ (by simp [upd_at,e5,e9] <;> rfl) (kD (kB (kA (kX (fun _ _=>rfl) id))) hf.out)
        | false =>
          rw [hG] at e5
          go_simp
          refine hK.out (upd s 30 (undef)) _ _ (by simp [upd_at,e5] <;> rfl) (kD (kB (kA (kX (fun _ h=>Bool.noConfusion (h.symm.trans hG)) id))) hf.out)
      · intro l s wx hl hd hn hf0 K hK
        have hf:=Lib.hid hf0
        clear hf0
        have e5:=((jC hf.out).2.2.1 (hd 5 rfl))
        cases hG:(q0) with
        | true =>
          rw [hG] at e5
          have e10:=((jD hf.out).2.2.2.1 (hd 10 rfl)) hG
          have z:=((hf.out.1).cell (p:=⟨B,8,none⟩) (by omega)).trans y8
          go_simp
          refine hK.out (upd s 31 (.int .i64 now)) _ _ (by simp [upd_at,e5,e10] <;> rfl) (kD (kC (kX (fun _ _=>rfl) id)) hf.out)
        | false =>
          rw [hG] at e5
          go_simp
          refine hK.out (upd s 31 (undef)) _ _ (by simp [upd_at,e5] <;> rfl) (kD (kC (kX (fun _ h=>Bool.noConfusion (h.symm.trans hG)) id)) hf.out)
      · intro l s wx hl hd hn hf0 K hK
        have hf:=Lib.hid hf0
        clear hf0
        have e5:=((jC hf.out).2.2.1 (hd 5 rfl))
        cases hG:(q0) with
        | true =>
          rw [hG] at e5
          have e7:=((jD hf.out).1 (hd 7 rfl)) hG
          have e11:=((jC (jD hf.out)).1 (hd 11 rfl)) hG
          go_simp
          go_at_call 44
          refine (inRange_any dd.beg now _).mono ?_
          rintro _ _ ⟨rfl,rfl⟩
          rw [hq1.out]
          refine hK.out (upd s 32 (.bool q1)) _ _ (by simp [upd_at,e5,e7,e11] <;> rfl) (kD (kC (kA (kX (fun _ _=>rfl) id))) hf.out)
        | false =>
          rw [hG] at e5
          go_simp
          refine hK.out (upd s 32 (undef)) _ _ (by simp [upd_at,e5] <;> rfl) (kD (kC (kA (kX (fun _ h=>Bool.noConfusion (h.symm.trans hG)) id))) hf.out)
      · intro l s wx hl hd hn hf0 K hK
        have hf:=Lib.hid hf0
        clear hf0
        have e5:=((jC hf.out).2.2.1 (hd 5 rfl))
        cases hG:(q0) with
        | true =>
          rw [hG] at e5
          have e12:=((jC (jD hf.out)).2.1 (hd 12 rfl)) hG
          go_simp
          refine hK.out (upd s 33 (.bool (!q1))) _ _ (by simp [upd_at,e5,e12] <;> rfl) (kD (kC (kB (kX (fun _ _=>rfl) id))) hf.out)
        | false =>
          rw [hG] at e5
          go_simp
          refine hK.out (upd s 33 (undef)) _ _ (by simp [upd_at,e5] <;> rfl) (kD (kC (kB (kX (fun _ h=>Bool.noConfusion (h.symm.trans hG)) id))) hf.out)
      · intro l s wx hl hd hn hf0 K hK
        have hf:=Lib.hid hf0
        clear hf0
        have e5:=((jC hf.out).2.2.1 (hd 5 rfl))
        have e13:=((jC (jD hf.out)).2.2.1 (hd 13 rfl))
        cases hG:(q0) with
        | true =>
          rw [hG] at e5
          replace e13:=e13 hG
          go_simp
          refine hK.out (upd s 34 (.bool (!q1))) _ _ (by simp [upd_at,e5,e13] <;> rfl) (kD (kC (kB (kA (kX (fun _=>by rw [show (upd s 34 (.bool (!q1))) 34=.bool (!q1) from rfl];exact pickB hG) id)))) hf.out)
        | false =>
          clear e13
          rw [hG] at e5
          go_simp
          refine hK.out (upd s 34 (.bool true)) _ _ (by simp [upd_at,e5] <;> rfl) (kD (kC (kB (kA (kX (fun _=>by rw [show (upd s 34 (.bool true)) 34=.bool true from rfl];exact pickN hG) id)))) hf.out)
      · intro l s wx hl hd hn hf0 K hK
        have hf:=Lib.hid hf0
        clear hf0
        have e14:=((jC (jD hf.out)).2.2.2.1 (hd 14 rfl))
        go_simp
        refine hK.out (upd s 35 (.bool (!(q0 && q1)))) _ _ (by simp [upd_at,e14] <;> rfl) (kE (kX (fun _=>rfl) id) hf.out)
      · intro l s wx hl hd hn hf0 K hK
        have hf:=Lib.hid hf0
        clear hf0
        have e15:=((jE hf.out).1 (hd 15 rfl))
        cases hG:((q0 && q1)) with
        | true =>
          rw [hG] at e15
          go_simp
          refine hK.out (upd s 36 (.pointer (some ⟨wr.heap.size,4,none⟩))) _ _ (by simp [upd_at,e15] <;> rfl) (kE (kA (kX (fun _ _=>rfl) id)) hf.out)
        | false =>
          rw [hG] at e15
          go_simp
          refine hK.out (upd s 36 (undef)) _ _ (by simp [upd_at,e15] <;> rfl) (kE (kA (kX (fun _ h=>Bool.noConfusion (h.symm.trans hG)) id)) hf.out)
      · intro l s wx hl hd hn hf0 K hK
        have hf:=Lib.hid hf0
        clear hf0
        have e15:=((jE hf.out).1 (hd 15 rfl))
        cases hG:((q0 && q1)) with
        | true =>
          rw [hG] at e15
          have e16:=((jE hf.out).2.1 (hd 16 rfl)) hG
          have z:=(bO (hpS z_h hf.out.1)).1 4
          go_simp
          refine hK.out (upd s 37 (.int .i64 dd.fin)) _ _ (by simp [upd_at,e15,e16] <;> rfl) (kE (kB (kX (fun _ _=>rfl) id)) hf.out)
        | false =>
          rw [hG] at e15
          go_simp
          refine hK.out (upd s 37 (undef)) _ _ (by simp [upd_at,e15] <;> rfl) (kE (kB (kX (fun _ h=>Bool.noConfusion (h.symm.trans hG)) id)) hf.out)
      · intro l s wx hl hd hn hf0 K hK
        have hf:=Lib.hid hf0
        clear hf0
        have e15:=((jE hf.out).1 (hd 15 rfl))
        cases hG:((q0 && q1)) with
        | true =>
          rw [hG] at e15
          go_simp
          refine hK.out (upd s 38 (.pointer (some ⟨B,0,none⟩))) _ _ (by simp [upd_at,e15] <;> rfl) (kE (kB (kA (kX (fun _ _=>rfl) id))) hf.out)
        | false =>
          rw [hG] at e15
          go_simp
          refine hK.out (upd s 38 (undef)) _ _ (by simp [upd_at,e15] <;> rfl) (kE (kB (kA (kX (fun _ h=>Bool.noConfusion (h.symm.trans hG)) id))) hf.out)
      · intro l s wx hl hd hn hf0 K hK
        have hf:=Lib.hid hf0
        clear hf0
        have e15:=((jE hf.out).1 (hd 15 rfl))
        cases hG:((q0 && q1)) with
        | true =>
          rw [hG] at e15
          have e18:=((jE hf.out).2.2.2.1 (hd 18 rfl)) hG
          go_simp
          refine hK.out (upd s 39 (.pointer (some ⟨B,0,none⟩))) _ _ (by simp [upd_at,e15,e18] <;> rfl) (kE (kC (kX (fun _ _=>rfl) id)) hf.out)
        | false =>
          rw [hG] at e15
          go_simp
          refine hK.out (upd s 39 (undef)) _ _ (by simp [upd_at,e15] <;> rfl) (kE (kC (kX (fun _ h=>Bool.noConfusion (h.symm.trans hG)) id)) hf.out)
      · intro l s wx hl hd hn hf0 K hK
        have hf:=Lib.hid hf0
        clear hf0
        have e15:=((jE hf.out).1 (hd 15 rfl))
        cases hG:((q0 && q1)) with
        | true =>
          rw [hG] at e15
          have e19:=((jC (jE hf.out)).1 (hd 19 rfl)) hG
          go_simp
          refine hK.out (upd s 40 (.pointer (some ⟨B,8,none⟩))) _ _ (by simp [upd_at,e15,e19] <;> rfl) (kE (kC (kA (kX (fun _ _=>rfl) id))) hf.out)
        | false =>
          rw [hG] at e15
          go_simp
          refine hK.out (upd s 40 (undef)) _ _ (by simp [upd_at,e15] <;> rfl) (kE (kC (kA (kX (fun _ h=>Bool.noConfusion (h.symm.trans hG)) id))) hf.out)
      · intro l s wx hl hd hn hf0 K hK
        have hf:=Lib.hid hf0
        clear hf0
        have e15:=((jE hf.out).1 (hd 15 rfl))
        cases hG:((q0 && q1)) with
        | true =>
          rw [hG] at e15
          have e20:=((jC (jE hf.out)).2.1 (hd 20 rfl)) hG
          have z:=((hf.out.1).cell (p:=⟨B,8,none⟩) (by omega)).trans y8
          go_simp
          refine hK.out (upd s 41 (.int .i64 now)) _ _ (by simp [upd_at,e15,e20] <;> rfl) (kE (kC (kB (kX (fun _ _=>rfl) id))) hf.out)
        | false =>
          rw [hG] at e15
          go_simp
          refine hK.out (upd s 41 (undef)) _ _ (by simp [upd_at,e15] <;> rfl) (kE (kC (kB (kX (fun _ h=>Bool.noConfusion (h.symm.trans hG)) id))) hf.out)
      · intro l s wx hl hd hn hf0 K hK
        have hf:=Lib.hid hf0
        clear hf0
        have e15:=((jE hf.out).1 (hd 15 rfl))
        cases hG:((q0 && q1)) with
        | true =>
          rw [hG] at e15
          have e17:=((jE hf.out).2.2.1 (hd 17 rfl)) hG
          have e21:=((jC (jE hf.out)).2.2.1 (hd 21 rfl)) hG
          go_simp
          go_at_call 44
          refine (inRange_any dd.fin now _).mono ?_
          rintro _ _ ⟨rfl,rfl⟩
          rw [hq2.out]
          refine hK.out (upd s 42 (.bool q2)) _ _ (by simp [upd_at,e15,e17,e21] <;> rfl) (kE (kC (kB (kA (kX (fun _ _=>rfl) id)))) hf.out)
        | false =>
          rw [hG] at e15
          go_simp
          refine hK.out (upd s 42 (undef)) _ _ (by simp [upd_at,e15] <;> rfl) (kE (kC (kB (kA (kX (fun _ h=>Bool.noConfusion (h.symm.trans hG)) id)))) hf.out)
      · intro l s wx hl hd hn hf0 K hK
        have hf:=Lib.hid hf0
        clear hf0
        have e15:=((jE hf.out).1 (hd 15 rfl))
        cases hG:((q0 && q1)) with
        | true =>
          rw [hG] at e15
          have e22:=((jC (jE hf.out)).2.2.2.1 (hd 22 rfl)) hG
          go_simp
          refine hK.out (upd s 43 (.bool (!q2))) _ _ (by simp [upd_at,e15,e22] <;> rfl) (kE (kD (kX (fun _ _=>rfl) id)) hf.out)
        | false =>
          rw [hG] at e15
          go_simp
          refine hK.out (upd s 43 (undef)) _ _ (by simp [upd_at,e15] <;> rfl) (kE (kD (kX (fun _ h=>Bool.noConfusion (h.symm.trans hG)) id)) hf.out)
      · intro l s wx hl hd hn hf0 K hK
        have hf:=Lib.hid hf0
        clear hf0
        have e15:=((jE hf.out).1 (hd 15 rfl))
        have e23:=((jD (jE hf.out)).1 (hd 23 rfl))
        cases hG:((q0 && q1)) with
        | true =>
          rw [hG] at e15
          replace e23:=e23 hG
          go_simp
          refine hK.out (upd s 44 (.bool (!q2))) _ _ (by simp [upd_at,e15,e23] <;> rfl) (kE (kD (kA (kX (fun _=>by rw [show (upd s 44 (.bool (!q2))) 44=.bool (!q2) from rfl];exact pickB hG) id))) hf.out)
        | false =>
          clear e23
          rw [hG] at e15
          go_simp
          refine hK.out (upd s 44 (.bool true)) _ _ (by simp [upd_at,e15] <;> rfl) (kE (kD (kA (kX (fun _=>by rw [show (upd s 44 (.bool true)) 44=.bool true from rfl];exact pickN hG) id))) hf.out)
      · intro l s wx hl hd hn hf0 K hK
        have hf:=Lib.hid hf0
        clear hf0
        have e24:=((jD (jE hf.out)).2.1 (hd 24 rfl))
        go_simp
        refine hK.out (upd s 45 (.bool (!((q0 && q1) && q2)))) _ _ (by simp [upd_at,e24] <;> rfl) (kE (kD (kB (kX (fun _=>rfl) id))) hf.out)
      · intro l s wx hl hd hn hf0 K hK
        have hf:=Lib.hid hf0
        clear hf0
        have e25:=((jD (jE hf.out)).2.2.1 (hd 25 rfl))
        cases hG:(((q0 && q1) && q2)) with
        | true =>
          rw [hG] at e25
          go_simp
          refine hK.out (upd s 46 (.pointer (some ⟨wr.heap.size,1,none⟩))) _ _ (by simp [upd_at,e25] <;> rfl) (kE (kD (kB (kA (kX (fun _ _=>rfl) id)))) hf.out)
        | false =>
          rw [hG] at e25
          go_simp
          refine hK.out (upd s 46 (undef)) _ _ (by simp [upd_at,e25] <;> rfl) (kE (kD (kB (kA (kX (fun _ h=>Bool.noConfusion (h.symm.trans hG)) id)))) hf.out)
      · intro l s wx hl hd hn hf0 K hK
        have hf:=Lib.hid hf0
        clear hf0
        have e25:=((jD (jE hf.out)).2.2.1 (hd 25 rfl))
        cases hG:(((q0 && q1) && q2)) with
        | true =>
          rw [hG] at e25
          have e26:=((jD (jE hf.out)).2.2.2.1 (hd 26 rfl)) hG
          have z:=(bO (hpS z_h hf.out.1)).1 1
          have z2:=(bO (hpS z_h hf.out.1)).1 2
          go_simp
          refine hK.out (upd s 47 (.agg #[.int .i64 dd.code,.int .i64 dd.elem])) _ _ (by simp [upd_at,e25,e26] <;> rfl) (kE (kD (kC (kX (fun _ _=>rfl) id))) hf.out)
        | false =>
          rw [hG] at e25
          go_simp
          refine hK.out (upd s 47 (undef)) _ _ (by simp [upd_at,e25] <;> rfl) (kE (kD (kC (kX (fun _ h=>Bool.noConfusion (h.symm.trans hG)) id))) hf.out)
      · intro l s wx hl hd hn hf0 K hK
        have hf:=Lib.hid hf0
        clear hf0
        have e25:=((jD (jE hf.out)).2.2.1 (hd 25 rfl))
        cases hG:(((q0 && q1) && q2)) with
        | true =>
          rw [hG] at e25
          go_simp
          refine hK.out (upd s 48 (.pointer (some ⟨wr.heap.size,5,none⟩))) _ _ (by simp [upd_at,e25] <;> rfl) (kE (kD (kC (kA (kX (fun _ _=>rfl) id)))) hf.out)
        | false =>
          rw [hG] at e25
          go_simp
          refine hK.out (upd s 48 (undef)) _ _ (by simp [upd_at,e25] <;> rfl) (kE (kD (kC (kA (kX (fun _ h=>Bool.noConfusion (h.symm.trans hG)) id)))) hf.out)
      · intro l s wx hl hd hn hf0 K hK
        have hf:=Lib.hid hf0
        clear hf0
        have e25:=((jD (jE hf.out)).2.2.1 (hd 25 rfl))
        cases hG:(((q0 && q1) && q2)) with
        | true =>
          rw [hG] at e25
          have e28:=((jC (jD (jE hf.out))).2.1 (hd 28 rfl)) hG
          have z:=(bO (hpS z_h hf.out.1)).1 5
          go_simp
          refine hK.out (upd s 49 (.int .i64 dd.reply)) _ _ (by simp [upd_at,e25,e28] <;> rfl) (kE (kD (kC (kB (kX (fun _ _=>rfl) id)))) hf.out)
        | false =>
          rw [hG] at e25
          go_simp
          refine hK.out (upd s 49 (undef)) _ _ (by simp [upd_at,e25] <;> rfl) (kE (kD (kC (kB (kX (fun _ h=>Bool.noConfusion (h.symm.trans hG)) id)))) hf.out)
      · intro l s wx hl hd hn hf0 K hK
        have hf:=Lib.hid hf0
        clear hf0
        have e25:=((jD (jE hf.out)).2.2.1 (hd 25 rfl))
        cases hG:(((q0 && q1) && q2)) with
        | true =>
          rw [hG] at e25
          have e27:=((jC (jD (jE hf.out))).1 (hd 27 rfl)) hG
          have e29:=((jC (jD (jE hf.out))).2.2.1 (hd 29 rfl)) hG
          go_simp
          go_at_call 66
          refine (replyOk_any dd.code dd.elem dd.reply _).mono ?_
          rintro _ wy ⟨rfl,hE⟩
          rw [hq3.out]
          refine hK.out (upd s 50 (.bool q3)) _ _ (by simp [upd_at,e25,e27,e29] <;> rfl) (kX (bT hf.out.1 hE) (kE (kD (kC (kB (kX (fun _ _=>rfl) (kX (nU (hn 31 rfl)) (kX (nU (hn 32 rfl)) (kX (nU (hn 33 rfl)) (kX (nU (hn 34 rfl)) (kX (nU (hn 35 rfl)) (kX (nU (hn 36 rfl)) (kX (nU (hn 37 rfl)) (fun _=>nU (hn 38 rfl)))))))))))))) hf.out)
        | false =>
          rw [hG] at e25
          go_simp
          refine hK.out (upd s 50 (undef)) _ _ (by simp [upd_at,e25] <;> rfl) (kE (kD (kC (kB (kA (kX (fun _ h=>Bool.noConfusion (h.symm.trans hG)) id))))) hf.out)
      · intro l s wx hl hd hn hf0 K hK
        have hf:=Lib.hid hf0
        clear hf0
        have e25:=((jD (jE hf.out)).2.2.1 (hd 25 rfl))
        cases hG:(((q0 && q1) && q2)) with
        | true =>
          rw [hG] at e25
          have e30:=((jC (jD (jE hf.out))).2.2.2.1 (hd 30 rfl)) hG
          go_simp
          refine hK.out (upd s 51 (.bool (!q3))) _ _ (by simp [upd_at,e25,e30] <;> rfl) (kE (kE (kX (fun _ _=>rfl) id)) hf.out)
        | false =>
          rw [hG] at e25
          go_simp
          refine hK.out (upd s 51 (undef)) _ _ (by simp [upd_at,e25] <;> rfl) (kE (kE (kX (fun _ h=>Bool.noConfusion (h.symm.trans hG)) id)) hf.out)
      · intro l s wx hl hd hn hf0 K hK
        have hf:=Lib.hid hf0
        clear hf0
        have e25:=((jD (jE hf.out)).2.2.1 (hd 25 rfl))
        have e31:=((jE (jE hf.out)).1 (hd 31 rfl))
        cases hG:(((q0 && q1) && q2)) with
        | true =>
          rw [hG] at e25
          replace e31:=e31 hG
          go_simp
          refine hK.out (upd s 52 (.bool (!q3))) _ _ (by simp [upd_at,e25,e31] <;> rfl) (kE (kE (kA (kX (fun _=>by rw [show (upd s 52 (.bool (!q3))) 52=.bool (!q3) from rfl];exact pickB hG) id))) hf.out)
        | false =>
          clear e31
          rw [hG] at e25
          go_simp
          refine hK.out (upd s 52 (.bool true)) _ _ (by simp [upd_at,e25] <;> rfl) (kE (kE (kA (kX (fun _=>by rw [show (upd s 52 (.bool true)) 52=.bool true from rfl];exact pickN hG) id))) hf.out)
      · intro l s wx hl hd hn hf0 K hK
        have hf:=Lib.hid hf0
        clear hf0
        have e32:=((jE (jE hf.out)).2.1 (hd 32 rfl))
        go_simp
        refine hK.out (upd s 53 (.bool (!(((q0 && q1) && q2) && q3)))) _ _ (by simp [upd_at,e32] <;> rfl) (kE (kE (kB (kX (fun _=>rfl) id))) hf.out)
      · intro l s wx hl hd hn hf0 K hK
        have hf:=Lib.hid hf0
        clear hf0
        have e33:=((jE (jE hf.out)).2.2.1 (hd 33 rfl))
        cases hG:((((q0 && q1) && q2) && q3)) with
        | true =>
          rw [hG] at e33
          go_simp
          refine hK.out (upd s 54 (.pointer (some ⟨wr.heap.size,6,none⟩))) _ _ (by simp [upd_at,e33] <;> rfl) (kE (kE (kB (kA (kX (fun _ _=>rfl) id)))) hf.out)
        | false =>
          rw [hG] at e33
          go_simp
          refine hK.out (upd s 54 (undef)) _ _ (by simp [upd_at,e33] <;> rfl) (kE (kE (kB (kA (kX (fun _ h=>Bool.noConfusion (h.symm.trans hG)) id)))) hf.out)
      · intro l s wx hl hd hn hf0 K hK
        have hf:=Lib.hid hf0
        clear hf0
        have e33:=((jE (jE hf.out)).2.2.1 (hd 33 rfl))
        cases hG:((((q0 && q1) && q2) && q3)) with
        | true =>
          rw [hG] at e33
          have e34:=((jE (jE hf.out)).2.2.2.1 (hd 34 rfl)) hG
          have z:=(bO (hpS z_h hf.out.1)).1 6
          go_simp
          refine hK.out (upd s 55 (.int .i64 dd.out)) _ _ (by simp [upd_at,e33,e34] <;> rfl) (kE (kE (kC (kX (fun _ _=>rfl) id))) hf.out)
        | false =>
          rw [hG] at e33
          go_simp
          refine hK.out (upd s 55 (undef)) _ _ (by simp [upd_at,e33] <;> rfl) (kE (kE (kC (kX (fun _ h=>Bool.noConfusion (h.symm.trans hG)) id))) hf.out)
      · intro l s wx hl hd hn hf0 K hK
        have hf:=Lib.hid hf0
        clear hf0
        have e33:=((jE (jE hf.out)).2.2.1 (hd 33 rfl))
        cases hG:((((q0 && q1) && q2) && q3)) with
        | true =>
          rw [hG] at e33
          have e35:=((jC (jE (jE hf.out))).1 (hd 35 rfl)) hG
          go_simp
          go_at_call 44
          refine (inRange_any dd.out 999 _).mono ?_
          rintro _ _ ⟨rfl,rfl⟩
          rw [hq4.out]
          refine hK.out (upd s 56 (.bool q4)) _ _ (by simp [upd_at,e33,e35] <;> rfl) (kE (kE (kC (kA (kX (fun _ _=>rfl) id)))) hf.out)
        | false =>
          rw [hG] at e33
          go_simp
          refine hK.out (upd s 56 (undef)) _ _ (by simp [upd_at,e33] <;> rfl) (kE (kE (kC (kA (kX (fun _ h=>Bool.noConfusion (h.symm.trans hG)) id)))) hf.out)
      · intro l s wx hl hd hn hf0 K hK
        have hf:=Lib.hid hf0
        clear hf0
        have e33:=((jE (jE hf.out)).2.2.1 (hd 33 rfl))
        cases hG:((((q0 && q1) && q2) && q3)) with
        | true =>
          rw [hG] at e33
          have e36:=((jC (jE (jE hf.out))).2.1 (hd 36 rfl)) hG
          go_simp
          refine hK.out (upd s 57 (.bool (!q4))) _ _ (by simp [upd_at,e33,e36] <;> rfl) (kE (kE (kC (kB (kX (fun _ _=>rfl) id)))) hf.out)
        | false =>
          rw [hG] at e33
          go_simp
          refine hK.out (upd s 57 (undef)) _ _ (by simp [upd_at,e33] <;> rfl) (kE (kE (kC (kB (kX (fun _ h=>Bool.noConfusion (h.symm.trans hG)) id)))) hf.out)
      · intro l s wx hl hd hn hf0 K hK
        have hf:=Lib.hid hf0
        clear hf0
        have e33:=((jE (jE hf.out)).2.2.1 (hd 33 rfl))
        have e37:=((jC (jE (jE hf.out))).2.2.1 (hd 37 rfl))
        cases hG:((((q0 && q1) && q2) && q3)) with
        | true =>
          rw [hG] at e33
          replace e37:=e37 hG
          go_simp
          refine hK.out (upd s 58 (.bool (!q4))) _ _ (by simp [upd_at,e33,e37] <;> rfl) (kE (kE (kC (kB (kA (fun _=>fun _=>by rw [show (upd s 58 (.bool (!q4))) 58=.bool (!q4) from rfl];exact pickB hG))))) hf.out)
        | false =>
          clear e37
          rw [hG] at e33
          go_simp
          refine hK.out (upd s 58 (.bool true)) _ _ (by simp [upd_at,e33] <;> rfl) (kE (kE (kC (kB (kA (fun _=>fun _=>by rw [show (upd s 58 (.bool true)) 58=.bool true from rfl];exact pickN hG))))) hf.out)
    · have:k=ds.length:=by omega
      subst this
      have h1:=hall.out
      rw [List.take_length] at h1
      go_wp2
      go_ret
      exact ⟨ret_bool h1.symm,hB⟩
end Go.Proofs.YtmnpgkcdfielbaaGreat
set_option linter.unusedSimpArgs false
set_option linter.unusedVariables false
namespace Go.Proofs.YtmnpgkcdfielbaaGreat
open Go.RowKit
theorem infoCell:(Tryz.prog.info? 93).map (fun i=>(i.zero,i.size,i.bytes))=some (some (.agg #[.int .i64 0,.int .i64 0,.int .i64 0]),3,24):=by kernel_rfl
theorem mkCells (n:Nat) (h:n≤1048576) (W:World):(Instr.makeSlice 32 (.int .i64 n) (.int .i64 n)).run Tryz.prog W=.ok (.slice (some ⟨W.heap.size,0,none⟩) n n) (W.alloc (.cells (madeCells #[.int .i64 0,.int .i64 0,.int .i64 0] (n*3)) 93)):=by
  obtain ⟨i,hi,hz,hs,hb⟩:=info_parts infoCell
  have:=run_make (P:=Tryz.prog) W 32 93 i _ Tryz.underlying32 hi hz .i64 .i64 n n (by omega) (by omega) (by rw [hb];omega) (by omega)
  rw [this,hs]
  simp [Value.cells]
theorem mkInts (n:Nat) (h:n≤1048576) (W:World):(Instr.makeSlice 23 (.int .i64 n) (.int .i64 n)).run Tryz.prog W=.ok (.slice (some ⟨W.heap.size,0,none⟩) n n) (W.alloc (.cells (madeCells #[.int .i64 0] (n*1)) 2)):=by
  obtain ⟨i,hi,hz,hs,hb⟩:=info_parts infoInt
  have:=run_make (P:=Tryz.prog) W 23 2 i _ Tryz.underlying23 hi hz .i64 .i64 n n (by omega) (by omega) (by rw [hb];omega) (by omega)
  rw [this,hs]
  simp [Value.cells]
end Go.Proofs.YtmnpgkcdfielbaaGreat
set_option linter.unusedSimpArgs false
set_option linter.unusedVariables false
namespace Go.Proofs.YtmnpgkcdfielbaaGreat
open Go.RowKit
def partI (l:List Int) (k i _j:Nat):Value:=if i<k then .int .i64 (l.getD i 0) else .int .i64 0
theorem Row.set1 {w:World} {b:Nat} {t:TypeId} {n:Nat} {f:Nat→Nat→Value} (h:Row w b t n 1 f) {i:Nat} (hi:i<n) (v:Value) :
    Row (w.setCell ⟨b,i,none⟩ v) b t n 1 (fun i' j'=>if i'=i then v else f i' j'):=by
  have h1:=h.set hi (j:=0) (by omega) v
  simp only [Nat.mul_one,Nat.add_zero] at h1
  refine h1.congr fun i' j' _ hj=>?_
  have:j'=0:=by omega
  subst this
  by_cases e:i'=i <;> simp [e]
theorem partI_step {l:List Int} {k:Nat} {x:Int} (h:l.getD k 0=x) (i j:Nat):(if i=k then Value.int .i64 x else partI l k i j)=partI l (k+1) i j:=by
  unfold partI
  by_cases e:i=k
  · subst e;rw [if_pos rfl,if_pos (by omega),h]
  · rw [if_neg e]
    by_cases e2:i<k
    · rw [if_pos e2,if_pos (by omega)]
    · rw [if_neg e2,if_neg (by omega)]
theorem partI_end (l:List Int):∀ i j,i<l.length→j<1→partI l l.length i j=intF l i j:=fun i j hi _=>by simp [partI,intF,hi]
set_option maxHeartbeats 400000 in
theorem toInt64S_any (l:List Int) (a:Option Addr) (cap:Nat) (w:World) (h:Seg w w.heap.size a l.length 1 (intF l)) (hm:l.length≤1048576) :
    Calls Tryz.prog 40 #[.slice a l.length cap] w fun r w'=>r=.returned (.slice (some ⟨w.heap.size,0,none⟩) l.length l.length)∧Row w' w.heap.size 2 l.length 1 (intF l)∧Below w.heap.size w w':=by
  have HS:=Lib.hid h
  clear h
  have hmk:=mkInts l.length hm
  have hR0:=(Row.made w #[.int .i64 0] l.length 2).congr (g:=partI l 0) (fun i j _ hj=>by
    have:j=0:=by simp at hj;omega
    subst this;simp [partI])
  go_enter Tryz.func40,Tryz.ntmps40
  go_wp2
  go_loopw [4] (fun i wr=>∃ k:Nat,k≤l.length∧i=.int .i64 k∧Row wr w.heap.size 2 l.length 1 (partI l k)∧Below w.heap.size w wr) (fun i _=>l.length - (intOf i).toNat)
  case atStart=>exact ⟨0,Nat.zero_le _,rfl,by simpa using hR0,(Below.refl _ _).alloc (Nat.le_refl _) _⟩
  case round =>
    obtain ⟨k,hk,rfl,hR,hB⟩:=hrel
    have hs:=hB.size
    have hl:=hR.lt
    by_cases hlt:k<l.length
    · obtain h0|⟨b,o,rfl,hb,hc⟩:=HS.out
      · omega
      have c0:=(hB.cell (p:=⟨b,o+k*1+0,none⟩) hb).trans (hc k 0 hlt (by omega))
      simp only [intF,Nat.add_zero,Nat.mul_one] at c0
      clear hc
      generalize hcg:l.getD k 0=x at c0
      have HC:=Lib.hid hcg
      clear hcg
      have e0:=hR.cell hlt (show 0<1 by omega)
      simp only [Nat.add_zero,Nat.mul_one] at e0
      have f1:=hR.frozen
      go_wp2
      go_roundw
      case rel=>exact ⟨k+1,by omega,by go_num,(hR.set1 hlt (.int .i64 x)).congr (fun i j _ _=>partI_step HC.out i j),by exact zB⟩
      case measure=>simp [intOf];omega
    · have:k=l.length:=by omega
      subst this
      go_wp2
      go_ret
      exact ⟨rfl,hR.congr (partI_end l),hB⟩
theorem bDN' {w W:World} (h:Below w.heap.size w W) (n:Nat):Below w.heap.size w (W.drewN n):=⟨h.os,h.tape,h.output,h.size,h.block⟩
set_option maxRecDepth 100000 in
set_option maxHeartbeats 400000 in
theorem eqInt64S_any (l:List Int) (a a':Option Addr) (cap cap':Nat) (w:World) (h:Seg w w.heap.size a l.length 1 (intF l)) (h':Seg w w.heap.size a' l.length 1 (intF l)) (hm:l.length≤1048576) :
    Calls Tryz.prog 8 #[.slice a l.length cap,.slice a' l.length cap'] w fun r w'=>r=.returned (.bool true)∧Below w.heap.size w w':=by
  have HS:=Lib.hid h
  have HS':=Lib.hid h'
  clear h h'
  go_enter Tryz.func8,Tryz.ntmps8
  go_wp2
  go_loopw [5] (fun i wr=>∃ k:Nat,k≤l.length∧i=.int .i64 k∧Below w.heap.size w wr) (fun i _=>l.length - (intOf i).toNat)
  case atStart=>exact ⟨0,Nat.zero_le _,rfl,Below.refl _ _⟩
  case round =>
    obtain ⟨k,hk,rfl,hB⟩:=hrel
    by_cases hlt:k<l.length
    · obtain h0|⟨b,o,rfl,hb,hc⟩:=HS.out
      · omega
      obtain h0|⟨b',o',rfl,hb',hc'⟩:=HS'.out
      · omega
      have c0:=(hB.cell (p:=⟨b,o+k*1+0,none⟩) hb).trans (hc k 0 hlt (by omega))
      have d0:=(hB.cell (p:=⟨b',o'+k*1+0,none⟩) hb').trans (hc' k 0 hlt (by omega))
      simp only [intF,Nat.add_zero,Nat.mul_one] at c0 d0
      clear hc hc'
      generalize l.getD k 0=x at c0 d0
      have hk0:(0:Int)≤(k:Int):=by omega
      have hk1:(k:Int)<(l.length:Int):=by omega
      go_wp2_with fail
      go_quiet (fail)
      go_wp2
      go_roundw
      case rel=>exact ⟨k+1,by omega,by go_num,bDN' hB _⟩
      case measure=>simp [intOf];omega
    · have:k=l.length:=by omega
      subst this
      go_wp2
      go_ret
      exact ⟨rfl,hB⟩
set_option maxHeartbeats 400000 in
theorem szInt64S_any (n:Nat) (a:Option Addr) (cap:Nat) (left:Int) (w:World) (h0:0≤left) (h1:left≤1048576) (hm:n≤maxLen) :
    Calls Tryz.prog 30 #[.slice a n cap,.int .i64 left] w fun r w'=>r=.returned (.int .i64 (if left<n then -1 else left - n))∧w=w':=by
  unfold maxLen at hm
  by_cases h:left<n
  · have hn:left - n<0:=by omega
    rw [if_pos h]
    clear h
    go_enter Tryz.func30,Tryz.ntmps30
    go_wp2
    go_ret
    exact ⟨rfl,rfl⟩
  · have hn:¬ left - n<0:=by omega
    rw [if_neg h]
    go_enter Tryz.func30,Tryz.ntmps30
    go_wp2
    go_ret
    exact ⟨rfl,rfl⟩
end Go.Proofs.YtmnpgkcdfielbaaGreat
set_option linter.unusedSimpArgs false
set_option linter.unusedVariables false
namespace Go.Proofs.YtmnpgkcdfielbaaGreat
open Go.RowKit
set_option maxHeartbeats 400000 in
theorem toCell_any (s e t:Int) (w:World):Calls Tryz.prog 59 #[.agg #[.int .i64 s,.int .i64 e,.int .i64 t]] w fun r w'=>r=.returned (.agg #[.int .i64 s,.int .i64 e,.int .i64 t])∧Below w.heap.size w w':=by
  go_enter Tryz.func59,Tryz.ntmps59
  go_wp2
  exact bodyPost_ret (v:=.agg #[.int .i64 s,.int .i64 e,.int .i64 t]) (by simp [results,Tryz.results59,go_sem]) rfl ⟨rfl,by exact zB⟩
set_option maxHeartbeats 400000 in
theorem eqCell_any (s e t s' e' t':Int) (w:World):Calls Tryz.prog 68 #[.agg #[.int .i64 s,.int .i64 e,.int .i64 t],.agg #[.int .i64 s',.int .i64 e',.int .i64 t']] w fun r w'=>r=.returned (.bool (eqC s e t s' e' t'))∧Below w.heap.size w w':=by
  go_enter Tryz.func68,Tryz.ntmps68
  go_wp2
  all_goals go_ret
  all_goals refine ⟨ret_bool ?_,by exact zB⟩
  all_goals unfold eqC
  all_goals repeat (rw [eqB_2 ‹_›])
  all_goals first|exact eqB_1 ‹_›|rfl
set_option maxHeartbeats 400000 in
theorem toCellS_any (cs:List C3) (a:Option Addr) (cap:Nat) (w:World) (h:Seg w w.heap.size a cs.length 3 (cellF cs)) (hm:cs.length≤1048576) :
    Calls Tryz.prog 39 #[.slice a cs.length cap] w fun r w'=>r=.returned (.slice (some ⟨w.heap.size,0,none⟩) cs.length cs.length)∧Row w' w.heap.size 93 cs.length 3 (cellF cs)∧Below w.heap.size w w':=by
  have HS:=Lib.hid h
  clear h
  have hmk:=mkCells cs.length hm
  have hR0:=(Row.made w #[.int .i64 0,.int .i64 0,.int .i64 0] cs.length 93).congr (g:=partF cs 0) (fun i j _ hj=>by
    have:j=0∨j=1∨j=2:=by simp at hj;omega
    rcases this with rfl|rfl|rfl <;> simp [partF])
  go_enter Tryz.func39,Tryz.ntmps39
  go_wp2
  go_loopw [4] (fun i wr=>∃ k:Nat,k≤cs.length∧i=.int .i64 k∧Row wr w.heap.size 93 cs.length 3 (partF cs k)∧Below w.heap.size w wr) (fun i _=>cs.length - (intOf i).toNat)
  case atStart=>exact ⟨0,Nat.zero_le _,rfl,hR0,(Below.refl _ _).alloc (Nat.le_refl _) _⟩
  case round =>
    obtain ⟨k,hk,rfl,hR,hB⟩:=hrel
    have hs:=hB.size
    have hl:=hR.lt
    by_cases hlt:k<cs.length
    · obtain h0|⟨b,o,rfl,hb,hc⟩:=HS.out
      · omega
      have c0:=(hB.cell (p:=⟨b,o+k*3+0,none⟩) hb).trans (hc k 0 hlt (by omega))
      have c1:=(hB.cell (p:=⟨b,o+k*3+1,none⟩) hb).trans (hc k 1 hlt (by omega))
      have c2:=(hB.cell (p:=⟨b,o+k*3+2,none⟩) hb).trans (hc k 2 hlt (by omega))
      simp only [cellF,C3.val,Nat.add_zero] at c0 c1 c2
      clear hc
      generalize hcg:cs.getD k ⟨0,0,0⟩=c at c0 c1 c2
      have HC:=Lib.hid hcg
      clear hcg
      go_wp2_with ((go_at_call 59;refine (toCell_any _ _ _ _).mono ?_;rintro _ w1 ⟨rfl,hbw1⟩;have hBw1:Below w.heap.size w w1:=bT (by exact zB) hbw1;have hsw1:=hbw1.size;(try (simp at hsw1)));have hR1:=hR.below hbw1 hl;have e0:=hR1.cell hlt (show 0<3 by omega);have e1:=hR1.cell hlt (show 1<3 by omega);have e2:=hR1.cell hlt (show 2<3 by omega);simp only [Nat.add_zero] at e0;have f1:=hR1.frozen)
      go_roundw
      case rel=>exact ⟨k+1,by omega,by go_num,(hR1.set3 hlt c.val).congr (fun i j _ _=>part_step HC.out i j),by exact zB⟩
      case measure=>simp [intOf];omega
    · have:k=cs.length:=by omega
      subst this
      go_wp2
      go_ret
      exact ⟨rfl,hR.congr (part_end cs),hB⟩
set_option maxRecDepth 100000 in
set_option maxHeartbeats 400000 in
theorem eqCellS_any (cs:List C3) (a a':Option Addr) (cap cap':Nat) (w:World) (h:Seg w w.heap.size a cs.length 3 (cellF cs)) (h':Seg w w.heap.size a' cs.length 3 (cellF cs)) (hm:cs.length≤1048576) :
    Calls Tryz.prog 49 #[.slice a cs.length cap,.slice a' cs.length cap'] w fun r w'=>r=.returned (.bool true)∧Below w.heap.size w w':=by
  have HS:=Lib.hid h
  have HS':=Lib.hid h'
  clear h h'
  go_enter Tryz.func49,Tryz.ntmps49
  go_wp2
  go_loopw [5] (fun i wr=>∃ k:Nat,k≤cs.length∧i=.int .i64 k∧Below w.heap.size w wr) (fun i _=>cs.length - (intOf i).toNat)
  case atStart=>exact ⟨0,Nat.zero_le _,rfl,Below.refl _ _⟩
  case round =>
    obtain ⟨k,hk,rfl,hB⟩:=hrel
    have hs:=hB.size
    by_cases hlt:k<cs.length
    · obtain h0|⟨b,o,rfl,hb,hc⟩:=HS.out
      · omega
      obtain h0|⟨b',o',rfl,hb',hc'⟩:=HS'.out
      · omega
      have c0:=(hB.cell (p:=⟨b,o+k*3+0,none⟩) hb).trans (hc k 0 hlt (by omega))
      have c1:=(hB.cell (p:=⟨b,o+k*3+1,none⟩) hb).trans (hc k 1 hlt (by omega))
      have c2:=(hB.cell (p:=⟨b,o+k*3+2,none⟩) hb).trans (hc k 2 hlt (by omega))
      have d0:=(hB.cell (p:=⟨b',o'+k*3+0,none⟩) hb').trans (hc' k 0 hlt (by omega))
      have d1:=(hB.cell (p:=⟨b',o'+k*3+1,none⟩) hb').trans (hc' k 1 hlt (by omega))
      have d2:=(hB.cell (p:=⟨b',o'+k*3+2,none⟩) hb').trans (hc' k 2 hlt (by omega))
      simp only [cellF,C3.val,Nat.add_zero] at c0 c1 c2 d0 d1 d2
      clear hc hc'
      generalize hcg:cs.getD k ⟨0,0,0⟩=c at c0 c1 c2 d0 d1 d2
      have HC:=Lib.hid hcg
      clear hcg
      have hk0:(0:Int)≤(k:Int):=by omega
      have hk1:(k:Int)<(cs.length:Int):=by omega
      go_wp2_with fail
      go_still_tail 8,(by kernel_rfl)
      go_wp2_with (go_at_call 68;refine (eqCell_any _ _ _ _ _ _ _).mono ?_;rintro _ w1 ⟨rfl,hbw1⟩;have hBw1:Below w.heap.size w w1:=bT (by exact zB) hbw1;have hsw1:=hbw1.size;(try (simp at hsw1)))
      · rename_i hq
        rw [eqC_refl] at hq
        simp at hq
      · go_roundw
        case rel=>exact ⟨k+1,by omega,by go_num,by exact zB⟩
        case measure=>simp [intOf];omega
    · have:k=cs.length:=by omega
      subst this
      go_wp2
      go_ret
      exact ⟨rfl,hB⟩
set_option maxHeartbeats 400000 in
theorem szCellS_any (n:Nat) (a:Option Addr) (cap:Nat) (left:Int) (w:World) (h0:0≤left) (h1:left≤1048576) (hm:n≤maxLen) :
    Calls Tryz.prog 29 #[.slice a n cap,.int .i64 left] w fun r w'=>r=.returned (.int .i64 (if left<n then -1 else left - n))∧w=w':=by
  unfold maxLen at hm
  by_cases h:left<n
  · have hn:left - n<0:=by omega
    rw [if_pos h]
    clear h
    go_enter Tryz.func29,Tryz.ntmps29
    go_wp2
    go_ret
    exact ⟨rfl,rfl⟩
  · have hn:¬ left - n<0:=by omega
    rw [if_neg h]
    go_enter Tryz.func29,Tryz.ntmps29
    go_wp2
    go_ret
    exact ⟨rfl,rfl⟩
end Go.Proofs.YtmnpgkcdfielbaaGreat
