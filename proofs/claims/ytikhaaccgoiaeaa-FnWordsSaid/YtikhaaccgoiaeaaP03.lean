/-
  The reference model's functions of chapter 5, on hands that are kept whole; no condition.
  The reference model's looks at a world; lists lie in memory and hold at most 2 ^ 40 elements.
-/
import Derived.Test.YtikhaaccgoiaeaaP02
set_option linter.unusedSimpArgs false
set_option linter.unusedVariables false
namespace Go.Proofs.Ytikhaaccgoiaeaa
open Go.RowKit
attribute [local go_sem ↓] zeroHand toLHand toVHand storeHand storeHandC
set_option maxRecDepth 100000 in
set_option maxHeartbeats 1000000 in
theorem sHandOk_any (h:Ha) (w:World):Calls Try.prog 94 #[.agg (hvals h)] w fun r w'=>r=.returned (.bool (handOk h))∧Below w.heap.size w w':=by
  go_enter Try.func94,Try.ntmps94
  go_wp2_with (first|(go_at_call 47;refine (l1In_any _ _ _ _).mono ?_;rintro _ _ ⟨rfl,rfl⟩)|(go_at_call 72;refine (l1State_any _ _).mono ?_;rintro _ _ ⟨rfl,rfl⟩)|(go_at_call 67;refine (l1Elem_any _ _).mono ?_;rintro _ _ ⟨rfl,rfl⟩)|(go_at_call 48;refine (l2Count_any _ _).mono ?_;rintro _ _ ⟨rfl,rfl⟩)|(go_at_call 36;refine bHit w (by (repeat (with_reducible first|assumption|exact bR|refine bA ?_|refine bD ?_|((first|refine bS ?_ ?_|refine bBx ?_ ?_);rotate_left;focus (try simp) <;> (try omega))))) fun bb=>?_;refine (sCallOk_any _ _ _).mono ?_;rintro _ w1 ⟨rfl,hbw1⟩;have hCw1:Below w.heap.size w w1:=bT bb hbw1;have hsw1:=hbw1.size;(try simp at hsw1);have zz:=hpB hbw1 (b:=w.heap.size) (by (try simp) <;> omega);(try simp [go_sem] at zz);(try clear z_w x_w f_w l_w);have z_w:=zz;clear zz;obtain ⟨x_w,f_w,l_w⟩:=bO z_w;clear hbw1 bb)|(go_at_call 97;refine bHit w (by (repeat (with_reducible first|assumption|exact bR|refine bA ?_|refine bD ?_|((first|refine bS ?_ ?_|refine bBx ?_ ?_);rotate_left;focus (try simp) <;> (try omega))))) fun bb=>?_;refine (l4None_any _ _ _).mono ?_;rintro _ w1 ⟨rfl,hbw1⟩;have hCw1:Below w.heap.size w w1:=bT bb hbw1;have hsw1:=hbw1.size;(try simp at hsw1);have zz:=hpB hbw1 (b:=w.heap.size) (by (try simp) <;> omega);(first|simp [go_sem,z_w,l_w] at zz|simp [go_sem] at zz|skip);(try clear z_w x_w f_w l_w);have z_w:=zz;clear zz;obtain ⟨x_w,f_w,l_w⟩:=bO z_w;clear hbw1 bb))
  all_goals go_ret
  all_goals exact ⟨ret_bool (by simp_all [handOk,handA,handB,handC]),by (repeat (with_reducible first|assumption|exact bR|refine bA ?_|refine bD ?_|((first|refine bS ?_ ?_|refine bBx ?_ ?_);rotate_left;focus (try simp) <;> (try omega))))⟩
set_option maxRecDepth 100000 in
theorem sResting_any (x o:Int) (w:World):Calls Try.prog 87 #[.int .i64 x,.int .i64 o] w fun r w'=>r=.returned (.agg (hvals (resting x o)))∧Below w.heap.size w w':=by
  go_enter Try.func87,Try.ntmps87
  go_wp2
  refine bodyPost_ret (res_c Try.results87 rfl (ldHand (resting x o) (by simp [go_sem] <;> rfl))) rfl ⟨rfl,by (repeat (with_reducible first|assumption|exact bR|refine bA ?_|refine bD ?_|((first|refine bS ?_ ?_|refine bBx ?_ ?_);rotate_left;focus (try simp) <;> (try omega))))⟩
set_option maxRecDepth 100000 in
theorem l5Begin_any (k e b:Int) (w:World):Calls Try.prog 95 #[.agg #[.int .i64 k,.int .i64 e],.int .i64 b] w fun r w'=>r=.returned (.agg (hvals (begun k e b)))∧Below w.heap.size w w':=by
  by_cases h:k=2
  · subst h
    go_enter Try.func95,Try.ntmps95
    go_wp2
    refine bodyPost_ret (res_c Try.results95 rfl (ldHand (begun 2 e b) (by simp [go_sem] <;> rfl))) rfl ⟨rfl,by (repeat (with_reducible first|assumption|exact bR|refine bA ?_|refine bD ?_|((first|refine bS ?_ ?_|refine bBx ?_ ?_);rotate_left;focus (try simp) <;> (try omega))))⟩
  · have e1:begun k e b=⟨1,k,e,0,0,0,0,0,0,0,0,b,0,0⟩:=by simp [begun,h]
    rw [e1]
    have h2:(k == 2)=false:=by simpa using h
    clear h
    go_enter Try.func95,Try.ntmps95
    go_wp2
    refine bodyPost_ret (res_c Try.results95 rfl (ldHand ⟨1,k,e,0,0,0,0,0,0,0,0,b,0,0⟩ (by simp [go_sem] <;> rfl))) rfl ⟨rfl,by (repeat (with_reducible first|assumption|exact bR|refine bA ?_|refine bD ?_|((first|refine bS ?_ ?_|refine bBx ?_ ?_);rotate_left;focus (try simp) <;> (try omega))))⟩
set_option maxRecDepth 100000 in
theorem l6Anew_any (h:Ha) (w:World):Calls Try.prog 113 #[.agg (hvals h)] w fun r w'=>r=.returned (.agg (hvals (begun h.code h.elem h.beg)))∧Below w.heap.size w w':=by
  go_enter Try.func113,Try.ntmps113
  go_wp2_with fail;refine bHit w (by (repeat (with_reducible first|assumption|exact bR|refine bA ?_|refine bD ?_|((first|refine bS ?_ ?_|refine bBx ?_ ?_);rotate_left;focus (try simp) <;> (try omega))))) fun bb=>?_;refine (l5Begin_any h.code h.elem h.beg _).mono ?_;rintro _ w1 ⟨rfl,hbw1⟩;have hCw1:Below w.heap.size w w1:=bT bb hbw1;have hsw1:=hbw1.size;(try simp at hsw1);have zz:=And.intro (hpB hbw1 (b:=w.heap.size+1) (by (try simp) <;> omega)) <| hpB hbw1 (b:=w.heap.size) (by (try simp) <;> omega);(try simp [go_sem] at zz);(try clear z_wp x_wp f_wp l_wp);(try clear z_w x_w f_w l_w);obtain ⟨z_wp,z_w⟩:=zz;obtain ⟨x_wp,f_wp,l_wp⟩:=bO z_wp;obtain ⟨x_w,f_w,l_w⟩:=bO z_w;clear hbw1 bb
  go_wp2
  refine bodyPost_ret (res_c Try.results113 rfl (ldHand (begun h.code h.elem h.beg) (by simp [go_sem, *] <;> rfl))) rfl ⟨rfl,by (repeat (with_reducible first|assumption|exact bR|refine bA ?_|refine bD ?_|((first|refine bS ?_ ?_|refine bBx ?_ ?_);rotate_left;focus (try simp) <;> (try omega))))⟩
end Go.Proofs.Ytikhaaccgoiaeaa
set_option linter.unusedSimpArgs false
set_option linter.unusedVariables false
namespace Go.Proofs.Ytikhaaccgoiaeaa
open Go.RowKit
set_option linter.unusedSimpArgs false
theorem l11Now_any (n:Int) (w:World):Calls Try.prog 92 #[.int .i64 n] w fun r w'=>r=.returned (.bool (inB n 0 20000))∧w=w':=by
  go_enter Try.func92,Try.ntmps92
  go_wp2_with (go_at_call 47;refine (l1In_any _ _ _ _).mono ?_;rintro _ _ ⟨rfl,rfl⟩)
  go_ret
  exact ⟨rfl,rfl⟩
theorem l11Task_any (c:Ch) (n:Nat) (now who:Int) (v1 v2 v3:Option Addr) (a1 a2 a3:Nat) (v4:Option Addr) (a4 n4 n1 n2:Nat) (hm:n≤1099511627776) (w:World) :
    Calls Try.prog 89 #[.agg #[.int .i64 c.cap,.int .i64 c.sent,.int .i64 c.got,.int .i64 c.fin,.slice v1 n1 a1,.slice v2 n2 a2,.slice v3 n a3,.slice v4 n4 a4,.int .i64 now],.int .i64 who] w fun r w'=>r=.returned (.bool (taskB n who))∧Below w.heap.size w w':=by
  go_enter Try.func89,Try.ntmps89
  go_wp2_with (go_at_call 47;refine (l1In_any _ _ _ _).mono ?_;rintro _ _ ⟨rfl,rfl⟩)
  go_ret
  exact ⟨ret_bool rfl,by (repeat (with_reducible first|assumption|exact bR|refine bA ?_|refine bD ?_|((first|refine bS ?_ ?_|refine bBx ?_ ?_);rotate_left;focus (try simp) <;> (try omega))))⟩
theorem hand_bad {x:Wo} {k:Nat} {h:Ha} (hk:k<x.hands.length) (hc:x.hands.getD k Ha.zero=h) (e:handB11 x.now h=false):false=worldOk x:=by
  have:x.hands.all (handB11 x.now)=false:=by
    rw [List.all_eq_false]
    refine ⟨x.hands[k],List.getElem_mem hk,?_⟩
    rw [← hc] at e
    simpa [List.getD,List.getElem?_eq_getElem hk] using e
  simp [worldOk,this]
theorem deal_bad {x:Wo} {k:Nat} {d:De} (hk:k<x.deals.length) (hc:x.deals.getD k De.zero=d) (e:dealB x.hands.length x.now d=false):false=worldOk x:=by
  have:x.deals.all (dealB x.hands.length x.now)=false:=by
    rw [List.all_eq_false]
    refine ⟨x.deals[k],List.getElem_mem hk,?_⟩
    rw [← hc] at e
    simpa [List.getD,List.getElem?_eq_getElem hk] using e
  simp [worldOk,this]
theorem take_snocH {α:Type} (l:List α) (k:Nat) (z:α) (hk:k<l.length):l.take (k+1)=l.take k ++ [l.getD k z]:=by
  rw [List.take_succ_eq_append_getElem hk];simp [List.getD,List.getElem?_eq_getElem hk]
theorem hands_snoc {x:Wo} {k:Nat} {h:Ha} (hk:k<x.hands.length) (hc:x.hands.getD k Ha.zero=h) (e:(x.hands.take k).all (handB11 x.now)=true) (e1:handB11 x.now h=true):(x.hands.take (k+1)).all (handB11 x.now)=true:=by
  rw [take_snocH _ k Ha.zero hk,hc,List.all_append,e];simp [e1]
theorem deals_snoc {x:Wo} {k:Nat} {d:De} (hk:k<x.deals.length) (hc:x.deals.getD k De.zero=d) (e:(x.deals.take k).all (dealB x.hands.length x.now)=true) (e1:dealB x.hands.length x.now d=true):(x.deals.take (k+1)).all (dealB x.hands.length x.now)=true:=by
  rw [take_snocH _ k De.zero hk,hc,List.all_append,e];simp [e1]
theorem world_all {x:Wo} (h:worldHead x=true) (h1:(x.hands.take x.hands.length).all (handB11 x.now)=true) (h2:(x.deals.take x.deals.length).all (dealB x.hands.length x.now)=true):true=worldOk x:=by
  rw [List.take_length] at h1 h2
  simp only [worldOk,h,h1,h2];rfl
theorem whead_yes {x:Wo} (h:worldHead x=true):chanOk x.ch=true∧1≤x.hands.length∧x.hands.length≤6∧x.deals.length≤1000∧inB x.now 0 20000=true:=by
  simpa [worldHead] using h
set_option maxRecDepth 100000 in
set_option maxHeartbeats 2000000 in
theorem sWorldOk_no (x:Wo) (a b d e:Option Addr) (p q r s:Nat) (w:World) (h1:Seg w w.heap.size a x.ch.cells.length 3 (cellF x.ch.cells)) (h2:Seg w w.heap.size b x.ch.words.length 1 (intF x.ch.words)) (m3:x.hands.length≤1099511627776) (m4:x.deals.length≤1099511627776) (h:worldHead x=false) :
    Calls Try.prog 88 #[.agg #[.int .i64 x.ch.cap,.int .i64 x.ch.sent,.int .i64 x.ch.got,.int .i64 x.ch.fin,.slice a x.ch.cells.length p,.slice b x.ch.words.length q,.slice d x.hands.length r,.slice e x.deals.length s,.int .i64 x.now]] w fun r w'=>r=.returned (.bool (worldOk x))∧Below w.heap.size w w':=by
  have e0:worldOk x=false:=by simp [worldOk,h]
  rw [e0]
  have H1:=Lib.hid h1
  have H2:=Lib.hid h2
  have H:=Lib.hid h
  clear h1 h2 h e0
  go_enter Try.func88,Try.ntmps88
  go_wp2_with (first|(go_at_call 13;refine bHit w (by (repeat (with_reducible first|assumption|exact bR|refine bA ?_|refine bD ?_|((first|refine bS ?_ ?_|refine bBx ?_ ?_);rotate_left;focus (try simp) <;> (try omega))))) fun bb=>?_;refine (sChanOk_any x.ch a b p q _ ((H1.out.below bb).more bb.size) ((H2.out.below bb).more bb.size)).mono ?_;rintro _ w1 ⟨rfl,hbw1⟩;have hCw1:Below w.heap.size w w1:=bT bb hbw1;have hsw1:=hbw1.size;(try simp at hsw1);have zz:=And.intro (fun o=>hbw1.cell (p:=⟨w.heap.size,o,none⟩) (by (try simp) <;> omega)) <| fun o=>hbw1.frozen (p:=⟨w.heap.size,o,none⟩) (by (try simp) <;> omega);(try simp [go_sem] at zz);(try clear x_w f_w);obtain ⟨x_w,f_w⟩:=zz;(try clear l_w);have l_w:w.heap.size<w1.heap.size:=(by omega);clear hbw1 bb)|(go_at_call 92;refine (l11Now_any _ _).mono ?_;rintro _ _ ⟨rfl,rfl⟩))
  all_goals first|(go_ret;exact ⟨rfl,by (repeat (with_reducible first|assumption|exact bR|refine bA ?_|refine bD ?_|((first|refine bS ?_ ?_|refine bBx ?_ ?_);rotate_left;focus (try simp) <;> (try omega))))⟩)|skip
  exfalso
  have h:=H.out
  simp [worldHead, *] at h
  have h2:=h (by omega) (by omega) (by omega)
  simp_all
attribute [local go_sem ↓] zeroHand toLHand toVHand storeHand storeHandC
set_option maxRecDepth 100000 in
set_option maxHeartbeats 4000000 in
theorem sWorldOk_yes (c:Ch) (hs:List Ha) (ds:List De) (now:Int) (a b d e:Option Addr) (p q r s:Nat) (w:World) (h1:Seg w w.heap.size a c.cells.length 3 (cellF c.cells)) (h2:Seg w w.heap.size b c.words.length 1 (intF c.words)) (h3:Seg w w.heap.size d hs.length 14 (handF hs)) (h4:Seg w w.heap.size e ds.length 7 (dealF ds)) (h:worldHead ⟨c,hs,ds,now⟩=true) :
    Calls Try.prog 88 #[.agg #[.int .i64 c.cap,.int .i64 c.sent,.int .i64 c.got,.int .i64 c.fin,.slice a c.cells.length p,.slice b c.words.length q,.slice d hs.length r,.slice e ds.length s,.int .i64 now]] w fun r w'=>r=.returned (.bool (worldOk ⟨c,hs,ds,now⟩))∧Below w.heap.size w w':=by
  obtain ⟨i1,i2,i3,i4,i5⟩:=whead_yes h
  simp only at i1 i2 i3 i4 i5
  have g1:decide ((hs.length:Int)<1)=false:=by simp;omega
  have g2:decide (6<(hs.length:Int))=false:=by simp;omega
  have g3:decide (1000<(ds.length:Int))=false:=by simp;omega
  have H1:=Lib.hid h1
  have H2:=Lib.hid h2
  have H4:=Lib.hid h4
  have HH:=Lib.hid h
  have I2:=Lib.hid i2
  obtain ⟨b3,o3,rfl,hb3,hc3⟩:∃ b o,d=some ⟨b,o,none⟩∧b<w.heap.size∧Hid (∀ i j,i<hs.length→j<14→w.cell? ⟨b,o+i*14+j,none⟩=some (handF hs i j)):=by
    rcases h3 with h0|h0
    · exact absurd h0 (by omega)
    · exact h0
  clear h1 h2 h3 h4 h i2
  go_enter Try.func88,Try.ntmps88
  go_wp2_with (first|((go_at_call 13;refine bHit w (by (repeat (with_reducible first|assumption|exact bR|refine bA ?_|refine bD ?_|((first|refine bS ?_ ?_|refine bBx ?_ ?_);rotate_left;focus (try simp) <;> (try omega))))) fun bb=>?_;refine (sChanOk_any c a b p q _ ((H1.out.below bb).more bb.size) ((H2.out.below bb).more bb.size)).mono ?_;rintro _ w1 ⟨rfl,hbw1⟩;have hCw1:Below w.heap.size w w1:=bT bb hbw1;have hsw1:=hbw1.size;(try simp at hsw1);have zz:=And.intro (fun o=>hbw1.cell (p:=⟨w.heap.size,o,none⟩) (by (try simp) <;> omega)) <| fun o=>hbw1.frozen (p:=⟨w.heap.size,o,none⟩) (by (try simp) <;> omega);(try simp [go_sem] at zz);(try clear x_w f_w);obtain ⟨x_w,f_w⟩:=zz;(try clear l_w);have l_w:w.heap.size<w1.heap.size:=(by omega);clear hbw1 bb);rw [i1])|((go_at_call 92;refine (l11Now_any _ _).mono ?_;rintro _ _ ⟨rfl,rfl⟩);rw [i5]))
  go_loopw [3] (fun i wr=>∃ k:Nat,k≤hs.length∧i=.int .i64 k∧Hid ((hs.take k).all (handB11 now)=true)∧(∀ o,wr.cell? ⟨w.heap.size,o,none⟩=#[Value.int .i64 c.cap,.int .i64 c.sent,.int .i64 c.got,.int .i64 c.fin,.slice a c.cells.length p,.slice b c.words.length q,.slice (some ⟨b3,o3,none⟩) hs.length r,.slice e ds.length s,.int .i64 now][o]?)∧w.heap.size<wr.heap.size∧Below w.heap.size w wr) (fun i _=>hs.length - (intOf i).toNat)
  case atStart=>exact ⟨0,Nat.zero_le _,rfl,rfl,fun o=>by simp [x_w],by omega,by (repeat (with_reducible first|assumption|exact bR|refine bA ?_|refine bD ?_|((first|refine bS ?_ ?_|refine bBx ?_ ?_);rotate_left;focus (try simp) <;> (try omega))))⟩
  case round =>
    clear x_w f_w l_w hCw1 hsw1
    obtain ⟨k,hk,rfl,hall,hbx,hlt1,hB⟩:=hrel
    by_cases hlt:k<hs.length
    · have cc:=fun j hj=>hc3.out k j hlt hj
      have hBk:=(hB.cell (p:=⟨b3,o3+k*14+11,none⟩) hb3).trans (cc 11 (by omega))
      simp only [handF] at cc hBk
      generalize hcg:hs.getD k Ha.zero=hx at cc hBk
      have HC:=Lib.hid hcg
      clear hcg
      have hLd:∀ W:World,hp W b3=hp w b3→(LHand (.pointer (some ⟨b3,o3+k*14,none⟩))).run Try.prog W=.ok (.agg (hvals hx)) W:=fun W e=>ldHandE hx fun j hj=>by rw [← cc j hj];exact World.cell?_of_block e
      clear cc
      have c11:wr.cell? ⟨b3,o3+k*14+11,none⟩=some (.int .i64 hx.beg):=hBk
      clear hBk
      have z3:hp wr b3=hp w b3:=hB.block b3 hb3
      have x6:=hbx 6
      have x8:=hbx 8
      simp at x6 x8
      have hk0:(0:Int)≤(k:Int):=by omega
      have hk1:(k:Int)<(hs.length:Int):=by omega
      by_cases hok:handOk hx=true
      · go_wp2_with fail
        go_region_held3 (fun w'=>w'.cell? ⟨w.heap.size,6,none⟩=some (.slice (some ⟨b3,o3,none⟩) hs.length r)∧w'.cell? ⟨w.heap.size,8,none⟩=some (.int .i64 now)∧hp w' b3=hp w b3∧w'.cell? ⟨b3,o3+k*14+11,none⟩=some (.int .i64 hx.beg))
          (first|(simp [*,go_sem]))
          (first|(go_at_call 94;refine (sHandOk_any hx _).mono ?_;rintro _ w7 ⟨rfl,hb7⟩;have hB7:Below w.heap.size w w7:=bT (by (repeat (with_reducible first|assumption|exact bR|refine bA ?_|refine bD ?_|((first|refine bS ?_ ?_|refine bBx ?_ ?_);rotate_left;focus (try simp) <;> (try omega))))) hb7;have:=hb7.cell (p:=⟨w.heap.size,6,none⟩) (by simp;omega);have:=hb7.cell (p:=⟨w.heap.size,8,none⟩) (by simp;omega);have:=hb7.cell (p:=⟨b3,o3+k*14+11,none⟩) (by simp;omega);have z7:hp w7 b3=hp w b3:=hB7.block b3 hb3;have hx7:=fun o=>(hb7.cell (p:=⟨w.heap.size,o,none⟩) (by simp;omega)).trans (hbx o);have hs7:=hb7.size;simp at hs7;rw [hok]))
        by_cases hct:now<hx.beg
        · go_wp2
          go_ret
          exact ⟨ret_bool (hand_bad (x:=⟨c,hs,ds,now⟩) hlt HC.out (by simp [handB11,hok];omega)),hB7⟩
        · go_wp2
          go_roundw
          case rel=>exact ⟨k+1,by omega,by go_num,hands_snoc (x:=⟨c,hs,ds,now⟩) hlt HC.out hall.out (by simp [handB11,hok];omega),hx7,by omega,hB7⟩
          case measure=>simp [intOf];omega
      · have hok2:handOk hx=false:=by simpa using hok
        clear hok
        go_wp2_with fail
        refine wp_region_held_drew (S:=fun w'=>w'.cell? ⟨w.heap.size,6,none⟩=some (.slice (some ⟨b3,o3,none⟩) hs.length r)∧w'.cell? ⟨w.heap.size,8,none⟩=some (.int .i64 now)∧hp w' b3=hp w b3∧w'.cell? ⟨b3,o3+k*14+11,none⟩=some (.int .i64 hx.beg)) (by kernel_rfl) (by simp [*,go_sem]) (fun hS0=>?_)
        refine wpAnyH_take (i:=0) (oi:=⟨some 41,_,_,_,_,_⟩) (v:=?_) rfl (by kernel_rfl) (by kernel_rfl) (by kernel_rfl) (fun _ _ _ h=>h) (Or.inl ⟨by rfl,?_⟩) (by assumption) ?_;rotate_left;(focus (intro w' hSw;(try dsimp only at hSw);go_simp;(try with_reducible rfl)));(try rotate_left);(try simp only [Act.put,List.setIfInBounds_toArray,List.set_cons_zero,List.set_cons_succ])
        refine wpAnyH_take (i:=1) (oi:=⟨some 42,_,_,_,_,_⟩) (v:=?_) rfl (by kernel_rfl) (by kernel_rfl) (by kernel_rfl) (fun _ _ _ h=>h) (Or.inl ⟨by rfl,?_⟩) (by assumption) ?_;rotate_left;(focus (intro w' hSw;(try dsimp only at hSw);go_simp;(try with_reducible rfl)));(try rotate_left);(try simp only [Act.put,List.setIfInBounds_toArray,List.set_cons_zero,List.set_cons_succ])
        refine wpAnyH_take (i:=2) (oi:=⟨some 43,_,_,_,_,_⟩) (v:=?_) rfl (by kernel_rfl) (by kernel_rfl) (by kernel_rfl) (fun _ _ _ h=>h) (Or.inl ⟨by rfl,?_⟩) (by assumption) ?_;rotate_left;(focus (intro w' hSw;(try dsimp only at hSw);go_simp;(try with_reducible rfl)));(try rotate_left);(try simp only [Act.put,List.setIfInBounds_toArray,List.set_cons_zero,List.set_cons_succ])
        refine wpAnyH_take (i:=3) (oi:=⟨some 44,_,_,_,_,_⟩) (v:=?_) rfl (by kernel_rfl) (by kernel_rfl) (by kernel_rfl) (fun _ _ _ h=>h) (Or.inl ⟨by rfl,?_⟩) (by assumption) ?_;rotate_left;(focus (intro w' hSw;(try dsimp only at hSw);go_simp;(try with_reducible rfl)));(try rotate_left);(try simp only [Act.put,List.setIfInBounds_toArray,List.set_cons_zero,List.set_cons_succ])
        refine wpAnyH_take (i:=4) (oi:=⟨some 45,_,_,_,_,_⟩) (v:=?_) rfl (by kernel_rfl) (by kernel_rfl) (by kernel_rfl) (fun _ _ _ h=>h) (Or.inl ⟨by rfl,?_⟩) (by assumption) ?_;rotate_left;(focus (intro w' hSw;(try dsimp only at hSw);go_simp;(try with_reducible rfl)));(try rotate_left);(try simp only [Act.put,List.setIfInBounds_toArray,List.set_cons_zero,List.set_cons_succ])
        refine wpAnyH_ready (rs:=[5]) (by kernel_rfl) (by simp) ?_
        refine AllReadyH.cons (o:=⟨some 46,_,_,_,_,_⟩) rfl (fun K hK=>?_) AllReadyH.nil
        go_simp
        go_at_call 94
        refine (sHandOk_any hx _).mono ?_
        rintro _ w7 ⟨rfl,hb7⟩
        have hB7:Below w.heap.size w w7:=bT (by (repeat (with_reducible first|assumption|exact bR|refine bA ?_|refine bD ?_|((first|refine bS ?_ ?_|refine bBx ?_ ?_);rotate_left;focus (try simp) <;> (try omega))))) hb7
        rw [hok2]
        refine hK.out _ _ ?_ (fun hS7=>?_)
        · refine ⟨(hb7.cell (by simp;omega)).trans x6,(hb7.cell (by simp;omega)).trans x8,hB7.block b3 hb3,(hb7.cell (by simp;omega)).trans c11⟩
        clear hK
        (try simp only [Act.put,List.setIfInBounds_toArray,List.set_cons_zero,List.set_cons_succ])
        refine wpAnyH_take (i:=6) (oi:=⟨some 47,_,_,_,_,_⟩) (v:=?_) rfl (by kernel_rfl) (by kernel_rfl) (by kernel_rfl) (fun _ _ _ h=>h) (Or.inl ⟨by rfl,?_⟩) (by assumption) ?_;rotate_left;(focus (intro w' hSw;(try dsimp only at hSw);go_simp;(try with_reducible rfl)));(try rotate_left);(try simp only [Act.put,List.setIfInBounds_toArray,List.set_cons_zero,List.set_cons_succ])
        refine wpAnyH_take (i:=7) (oi:=⟨some 48,_,_,_,_,_⟩) (v:=?_) rfl (by kernel_rfl) (by kernel_rfl) (by kernel_rfl) (fun _ _ _ h=>h) (Or.inl ⟨by rfl,?_⟩) (by assumption) ?_;rotate_left;(focus (intro w' hSw;(try dsimp only at hSw);go_simp;(try with_reducible rfl)));(try rotate_left);(try simp only [Act.put,List.setIfInBounds_toArray,List.set_cons_zero,List.set_cons_succ])
        refine wpAnyH_take (i:=8) (oi:=⟨some 49,_,_,_,_,_⟩) (v:=undef) rfl (by kernel_rfl) (by kernel_rfl) (by kernel_rfl) (fun _ _ _ h=>h) (Or.inr ⟨by rfl,rfl⟩) (by assumption) ?_;(try simp only [Act.put,List.setIfInBounds_toArray,List.set_cons_zero,List.set_cons_succ])
        refine wpAnyH_take (i:=9) (oi:=⟨some 50,_,_,_,_,_⟩) (v:=undef) rfl (by kernel_rfl) (by kernel_rfl) (by kernel_rfl) (fun _ _ _ h=>h) (Or.inr ⟨by rfl,rfl⟩) (by assumption) ?_;(try simp only [Act.put,List.setIfInBounds_toArray,List.set_cons_zero,List.set_cons_succ])
        refine wpAnyH_take (i:=10) (oi:=⟨some 51,_,_,_,_,_⟩) (v:=undef) rfl (by kernel_rfl) (by kernel_rfl) (by kernel_rfl) (fun _ _ _ h=>h) (Or.inr ⟨by rfl,rfl⟩) (by assumption) ?_;(try simp only [Act.put,List.setIfInBounds_toArray,List.set_cons_zero,List.set_cons_succ])
        refine wpAnyH_take (i:=11) (oi:=⟨some 52,_,_,_,_,_⟩) (v:=undef) rfl (by kernel_rfl) (by kernel_rfl) (by kernel_rfl) (fun _ _ _ h=>h) (Or.inr ⟨by rfl,rfl⟩) (by assumption) ?_;(try simp only [Act.put,List.setIfInBounds_toArray,List.set_cons_zero,List.set_cons_succ])
        refine wpAnyH_take (i:=12) (oi:=⟨some 53,_,_,_,_,_⟩) (v:=undef) rfl (by kernel_rfl) (by kernel_rfl) (by kernel_rfl) (fun _ _ _ h=>h) (Or.inr ⟨by rfl,rfl⟩) (by assumption) ?_;(try simp only [Act.put,List.setIfInBounds_toArray,List.set_cons_zero,List.set_cons_succ])
        refine wpAnyH_take (i:=13) (oi:=⟨some 54,_,_,_,_,_⟩) (v:=undef) rfl (by kernel_rfl) (by kernel_rfl) (by kernel_rfl) (fun _ _ _ h=>h) (Or.inr ⟨by rfl,rfl⟩) (by assumption) ?_;(try simp only [Act.put,List.setIfInBounds_toArray,List.set_cons_zero,List.set_cons_succ])
        refine wpAnyH_take (i:=14) (oi:=⟨some 55,_,_,_,_,_⟩) (v:=undef) rfl (by kernel_rfl) (by kernel_rfl) (by kernel_rfl) (fun _ _ _ h=>h) (Or.inr ⟨by rfl,rfl⟩) (by assumption) ?_;(try simp only [Act.put,List.setIfInBounds_toArray,List.set_cons_zero,List.set_cons_succ])
        refine wpAnyH_take (i:=15) (oi:=⟨some 56,_,_,_,_,_⟩) (v:=undef) rfl (by kernel_rfl) (by kernel_rfl) (by kernel_rfl) (fun _ _ _ h=>h) (Or.inr ⟨by rfl,rfl⟩) (by assumption) ?_;(try simp only [Act.put,List.setIfInBounds_toArray,List.set_cons_zero,List.set_cons_succ])
        refine wpAnyH_take (i:=16) (oi:=⟨some 57,_,_,_,_,_⟩) (v:=undef) rfl (by kernel_rfl) (by kernel_rfl) (by kernel_rfl) (fun _ _ _ h=>h) (Or.inr ⟨by rfl,rfl⟩) (by assumption) ?_;(try simp only [Act.put,List.setIfInBounds_toArray,List.set_cons_zero,List.set_cons_succ])
        refine wpAnyH_take (i:=17) (oi:=⟨some 58,_,_,_,_,_⟩) (v:=?_) rfl (by kernel_rfl) (by kernel_rfl) (by kernel_rfl) (fun _ _ _ h=>h) (Or.inl ⟨by rfl,?_⟩) (by assumption) ?_;rotate_left;(focus (intro w' hSw;(try dsimp only at hSw);go_simp;(try with_reducible rfl)));(try rotate_left);(try simp only [Act.put,List.setIfInBounds_toArray,List.set_cons_zero,List.set_cons_succ])
        refine wpAnyH_done (by kernel_rfl) ?_ _
        go_wp2
        go_ret
        exact ⟨ret_bool (hand_bad (x:=⟨c,hs,ds,now⟩) hlt HC.out (by simp [handB11,hok2])),hB7⟩
    · have:k=hs.length:=by omega
      subst this
      go_wp2
      go_loopw [4] (fun i wr=>∃ k:Nat,k≤ds.length∧i=.int .i64 k∧Hid ((ds.take k).all (dealB hs.length now)=true)∧(∀ o,wr.cell? ⟨w.heap.size,o,none⟩=#[Value.int .i64 c.cap,.int .i64 c.sent,.int .i64 c.got,.int .i64 c.fin,.slice a c.cells.length p,.slice b c.words.length q,.slice (some ⟨b3,o3,none⟩) hs.length r,.slice e ds.length s,.int .i64 now][o]?)∧w.heap.size<wr.heap.size∧Below w.heap.size w wr) (fun i _=>ds.length - (intOf i).toNat)
      case atStart=>exact ⟨0,Nat.zero_le _,rfl,rfl,hbx,hlt1,hB⟩
      case round =>
        clear hbx hlt1 hB hk
        obtain ⟨k,hk,rfl,hdall,hbx,hlt1,hB⟩:=hrel
        have x7:=hbx 7
        simp at x7
        by_cases hlt:k<ds.length
        · obtain h0|⟨b4,o4,rfl,hb4,hc4⟩:=H4.out
          · omega
          have cc:=fun j hj=>(hB.cell (p:=⟨b4,o4+k*7+j,none⟩) hb4).trans (hc4 k j hlt hj)
          have c0:=cc 0 (by omega)
          have c1:=cc 1 (by omega)
          have c2:=cc 2 (by omega)
          have c3:=cc 3 (by omega)
          have c4:=cc 4 (by omega)
          have c5:=cc 5 (by omega)
          have c6:=cc 6 (by omega)
          clear cc hc4
          simp only [dealF] at c0 c1 c2 c3 c4 c5 c6
          generalize hcg:ds.getD k De.zero=dd at c0 c1 c2 c3 c4 c5 c6
          simp [dvals,Array.getD] at c0 c1 c2 c3 c4 c5 c6
          have HC:=Lib.hid hcg
          clear hcg
          have x_w:=hbx
          have l_w:=hlt1
          have hl3:hs.length≤1099511627776:=by omega
          go_wp2_with (first|((go_at_call 89;refine bHit w (by (repeat (with_reducible first|assumption|exact bR|refine bA ?_|refine bD ?_|((first|refine bS ?_ ?_|refine bBx ?_ ?_);rotate_left;focus (try simp) <;> (try omega))))) fun bb=>?_;refine (l11Task_any c hs.length now _ _ _ _ _ _ _ _ _ _ _ _ hl3 _).mono ?_;rintro _ w5 ⟨rfl,hbw5⟩;have hCw5:Below w.heap.size w w5:=bT bb hbw5;have hsw5:=hbw5.size;(try simp at hsw5);have zz:=And.intro (fun o=>hbw5.cell (p:=⟨wr.heap.size,o,none⟩) (by (try simp) <;> omega)) <| And.intro (fun o=>hbw5.frozen (p:=⟨wr.heap.size,o,none⟩) (by (try simp) <;> omega)) <| And.intro (fun o=>hbw5.cell (p:=⟨w.heap.size,o,none⟩) (by (try simp) <;> omega)) <| fun o=>hbw5.frozen (p:=⟨w.heap.size,o,none⟩) (by (try simp) <;> omega);(first|simp [go_sem,x_w,f_w,l_w] at zz|simp [go_sem,x_w,l_w] at zz|simp [go_sem] at zz|skip);(try clear x_wr f_wr);(try clear x_w f_w);obtain ⟨x_wr,f_wr,x_w,f_w⟩:=zz;(try clear l_wr);have l_wr:wr.heap.size<w5.heap.size:=(by omega);(try clear l_w);have l_w:w.heap.size<w5.heap.size:=(by omega);clear hbw5 bb))|((go_at_call 34;refine bHit w (by (repeat (with_reducible first|assumption|exact bR|refine bA ?_|refine bD ?_|((first|refine bS ?_ ?_|refine bBx ?_ ?_);rotate_left;focus (try simp) <;> (try omega))))) fun bb=>?_;refine (sReplyOk_any _ _ _ _).mono ?_;rintro _ w6 ⟨rfl,hbw6⟩;have hCw6:Below w.heap.size w w6:=bT bb hbw6;have hsw6:=hbw6.size;(try simp at hsw6);have zz:=And.intro (fun o=>hbw6.cell (p:=⟨wr.heap.size,o,none⟩) (by (try simp) <;> omega)) <| And.intro (fun o=>hbw6.frozen (p:=⟨wr.heap.size,o,none⟩) (by (try simp) <;> omega)) <| And.intro (fun o=>hbw6.cell (p:=⟨w.heap.size,o,none⟩) (by (try simp) <;> omega)) <| fun o=>hbw6.frozen (p:=⟨w.heap.size,o,none⟩) (by (try simp) <;> omega);(first|simp [go_sem,x_wr,f_wr,x_w,f_w,l_w,l_wr] at zz|simp [go_sem,x_w,f_w,l_w] at zz|simp [go_sem,x_w,l_w] at zz|simp [go_sem] at zz|skip);(try clear x_wr f_wr);(try clear x_w f_w);obtain ⟨x_wr,f_wr,x_w,f_w⟩:=zz;(try clear l_wr);have l_wr:wr.heap.size<w6.heap.size:=(by omega);(try clear l_w);have l_w:w.heap.size<w6.heap.size:=(by omega);clear hbw6 bb))|(go_at_call 47;refine (l1In_any _ _ _ _).mono ?_;rintro _ _ ⟨rfl,rfl⟩)|(go_at_call 67;refine (l1Elem_any _ _).mono ?_;rintro _ _ ⟨rfl,rfl⟩))
          all_goals first
            | (go_ret;exact ⟨ret_bool (deal_bad (x:=⟨c,hs,ds,now⟩) hlt HC.out (by first|(simp [dealB, *];done)|(have h9:=not_true ‹(!inB dd.out 0 999)=true›;simp [dealB, *];done))),by (repeat (with_reducible first|assumption|exact bR|refine bA ?_|refine bD ?_|((first|refine bS ?_ ?_|refine bBx ?_ ?_);rotate_left;focus (try simp) <;> (try omega))))⟩)
            | (go_roundw
               case rel=>exact ⟨k+1,by omega,by go_num,deals_snoc (x:=⟨c,hs,ds,now⟩) hlt HC.out hdall.out (by have h9:=not_false ‹(!inB dd.out 0 999)=false›;simp [dealB, *]),fun o=>by simp [x_w],by omega,by (repeat (with_reducible first|assumption|exact bR|refine bA ?_|refine bD ?_|((first|refine bS ?_ ?_|refine bBx ?_ ?_);rotate_left;focus (try simp) <;> (try omega))))⟩
               case measure=>simp [intOf];omega)
        · have:k=ds.length:=by omega
          subst this
          go_wp2
          go_ret
          exact ⟨ret_bool (world_all HH.out hall.out hdall.out),hB⟩
theorem sWorldOk_any (x:Wo) (a b d e:Option Addr) (p q r s:Nat) (w:World) (h1:Seg w w.heap.size a x.ch.cells.length 3 (cellF x.ch.cells)) (h2:Seg w w.heap.size b x.ch.words.length 1 (intF x.ch.words)) (h3:Seg w w.heap.size d x.hands.length 14 (handF x.hands)) (h4:Seg w w.heap.size e x.deals.length 7 (dealF x.deals)) (m3:x.hands.length≤1099511627776) (m4:x.deals.length≤1099511627776) :
    Calls Try.prog 88 #[.agg #[.int .i64 x.ch.cap,.int .i64 x.ch.sent,.int .i64 x.ch.got,.int .i64 x.ch.fin,.slice a x.ch.cells.length p,.slice b x.ch.words.length q,.slice d x.hands.length r,.slice e x.deals.length s,.int .i64 x.now]] w fun r w'=>r=.returned (.bool (worldOk x))∧Below w.heap.size w w':=by
  cases h:worldHead x with
  | false=>exact sWorldOk_no x a b d e p q r s w h1 h2 m3 m4 h
  | true=>exact sWorldOk_yes x.ch x.hands x.deals x.now a b d e p q r s w h1 h2 h3 h4 h
end Go.Proofs.Ytikhaaccgoiaeaa
