/-
  Whether a world's hands are right, as the program asks it of a world behind a pointer; the list lies in memory.
-/
import Derived.Test.YtgpdocmclkpknaaP08
import Derived.Test.YtgpdocmclkpknaaP04
import Derived.Test.YtgpdocmclkpknaaP07
set_option linter.unusedSimpArgs false
set_option linter.unusedVariables false
namespace Go.Proofs.Ytgpdocmclkpknaa
open Go.RowKit
set_option linter.unusedSimpArgs false
attribute [local go_sem ↓] zeroHand toLHand toVHand storeHand storeHandC
theorem hands_yes {hs:List Ha} {now:Int} {k:Nat} {h:Ha} (hk:k<hs.length) (hc:hs.getD k Ha.zero=h) (e:(hs.take k).all (handB11 now)=true) (e1:handB11 now h=true):(hs.take (k+1)).all (handB11 now)=true:=by
  rw [take_snocH _ k Ha.zero hk,hc,List.all_append,e];simp [e1]
theorem hands_no {hs:List Ha} {now:Int} {k:Nat} {h:Ha} (hk:k<hs.length) (hc:hs.getD k Ha.zero=h) (e:handB11 now h=false):hs.all (handB11 now)=false:=by
  rw [List.all_eq_false]
  refine ⟨hs[k],List.getElem_mem hk,?_⟩
  rw [← hc] at e
  simpa [List.getD,List.getElem?_eq_getElem hk] using e
def handsB (hs:List Ha) (now:Int):Bool:=decide (1≤hs.length) && (decide (hs.length≤6) && hs.all (handB11 now))
theorem handB_y {now:Int} {h:Ha} (e:handOk h=true):Value.bool (decide (now<h.beg))=.bool (!handB11 now h):=by
  by_cases h2:now<h.beg <;> simp [handB11,e,h2] <;> omega
theorem handB_n {now:Int} {h:Ha} (e:handOk h=false):Value.bool true=.bool (!handB11 now h):=by simp [handB11,e]
set_option maxRecDepth 100000 in
set_option maxHeartbeats 4000000 in
theorem handsOk_any (hs:List Ha) (now:Int) (B:Nat) (d:Option Addr) (r:Nat) (w:World) (x6:w.cell? ⟨B,6,none⟩=some (.slice d hs.length r)) (x8:w.cell? ⟨B,8,none⟩=some (.int .i64 now)) (lB:B<w.heap.size) (h3:Seg w w.heap.size d hs.length 14 (handF hs)) (m:hs.length≤1099511627776) :
    Calls Try.prog 33 #[.pointer (some ⟨B,0,none⟩)] w fun r w'=>r=.returned (.bool (handsB hs now))∧Below w.heap.size w w':=by
  by_cases i2:1≤hs.length
  case neg =>
    have g1:decide ((hs.length:Int)<1)=true:=by simp;omega
    have e0:handsB hs now=false:=by simp [handsB];omega
    rw [e0]
    clear e0 i2
    go_enter Try.func33,Try.ntmps33
    go_wp2
    go_ret
    exact ⟨rfl,by exact zB⟩
  have g1:decide ((hs.length:Int)<1)=false:=by simp;omega
  by_cases i3:hs.length≤6
  case neg =>
    have g2:decide (6<(hs.length:Int))=true:=by simp;omega
    have e0:handsB hs now=false:=by simp [handsB];omega
    rw [e0]
    clear e0 i3
    go_enter Try.func33,Try.ntmps33
    go_wp2
    go_ret
    exact ⟨rfl,by exact zB⟩
  have g2:decide (6<(hs.length:Int))=false:=by simp;omega
  have e0:handsB hs now=hs.all (handB11 now):=by simp [handsB,i2,i3]
  rw [e0]
  clear e0
  obtain ⟨b3,o3,rfl,hb3,hc3⟩:∃ b o,d=some ⟨b,o,none⟩∧b<w.heap.size∧Hid (∀ i j,i<hs.length→j<14→w.cell? ⟨b,o+i*14+j,none⟩=some (handF hs i j)):=by
    rcases h3 with h0|h0
    · exact absurd h0 (by omega)
    · exact h0
  have I2:=Lib.hid i2
  clear h3 i2
  go_enter Try.func33,Try.ntmps33
  go_wp2_with fail
  go_loopw [24] (fun i wr=>∃ k:Nat,k≤hs.length∧i=.int .i64 k∧Hid ((hs.take k).all (handB11 now)=true)∧Below w.heap.size w wr) (fun i _=>hs.length - (intOf i).toNat)
  case atStart=>exact ⟨0,Nat.zero_le _,rfl,rfl,by exact zB⟩
  case round =>
    obtain ⟨k,hk,rfl,hall,hB⟩:=hrel
    by_cases hlt:k<hs.length
    · have cc:=fun j hj=>hc3.out k j hlt hj
      simp only [handF] at cc
      generalize hcg:hs.getD k Ha.zero=hx at cc
      have HC:=Lib.hid hcg
      clear hcg
      have hLd:∀ W:World,hp W b3=hp w b3→(LHand (.pointer (some ⟨b3,o3+k*14,none⟩))).run Try.prog W=.ok (.agg (hvals hx)) W:=fun W e=>ldHandE hx fun j hj=>by rw [← cc j hj];exact World.cell?_of_block e
      clear cc
      have z3:hp wr b3=hp w b3:=hB.block b3 hb3
      have y8:=(hB.cell (p:=⟨B,8,none⟩) lB).trans x8
      have hk0:(0:Int)≤(k:Int):=by omega
      have hk1:(k:Int)<(hs.length:Int):=by omega
      -- REGION
      go_wp2_with fail
      generalize hw5:World.alloc wr _=w5
      have z_h:hp w5 wr.heap.size=some (.cells (hvals hx) 60):=by rw [← hw5];exact heap_alloc_new _ _
      have hC5:Below wr.heap.size wr w5:=by rw [← hw5];exact belowAlloc _ _
      clear hw5
      have y5:=(hC5.cell (p:=⟨B,8,none⟩) (by have:=hB.size;simp;omega)).trans y8
      clear y8
      have y8:=y5
      clear y5
      have lB5:B<w5.heap.size:=by have:=hB.size;have:=hC5.size;omega
      clear hLd z3 hk0 hk1 hc3 hb3
      refine wp_region_inv [[],[0],[0,1],[0,1,2],[0,1,2,3],[0,1,2,3,4],[0,1,2,3],[0,1,2,3,6],[0,1,2,3,6,7],[0,1,2,3,6,7,8],[0,1,2,3,4,5,6,7,8,9],[0,1,2,3,4,5,6,7,8,9,10]] [28,29,30,31,32,33,34,35,36,37,38,39] (fun l s wx=>(Below w5.heap.size w5 wx)∧(l 0=true→s 28=.agg (hvals hx))∧(l 1=true→s 29=.bool (handOk hx))∧(l 2=true→s 30=.bool (!handOk hx))∧(l 3=true→s 31=.bool (!handOk hx))∧(l 4=true→handOk hx=true→s 32=.pointer (some ⟨wr.heap.size,11,none⟩))∧(l 5=true→handOk hx=true→s 33=.int .i64 hx.beg)∧(l 6=true→handOk hx=true→s 34=.pointer (some ⟨B,0,none⟩))∧(l 7=true→handOk hx=true→s 35=.pointer (some ⟨B,0,none⟩))∧(l 8=true→handOk hx=true→s 36=.pointer (some ⟨B,8,none⟩))∧(l 9=true→handOk hx=true→s 37=.int .i64 now)∧(l 10=true→handOk hx=true→s 38=.bool (decide (now<hx.beg)))∧(l 11=true→s 39=.bool (!handB11 now hx))) (by kernel_rfl) (by kernel_rfl) (by kernel_rfl) (fun s=>by (simp only [fill,fillA,List.setIfInBounds_toArray,List.set_cons_zero,List.set_cons_succ];rfl)) (fun s=>⟨(Below.refl _ _).drew,fun h=>absurd h Bool.false_ne_true,fun h=>absurd h Bool.false_ne_true,fun h=>absurd h Bool.false_ne_true,fun h=>absurd h Bool.false_ne_true,fun h=>absurd h Bool.false_ne_true,fun h=>absurd h Bool.false_ne_true,fun h=>absurd h Bool.false_ne_true,fun h=>absurd h Bool.false_ne_true,fun h=>absurd h Bool.false_ne_true,fun h=>absurd h Bool.false_ne_true,fun h=>absurd h Bool.false_ne_true,fun h=>absurd h Bool.false_ne_true⟩) ?_ ?_
      refine ⟨?_,?_,?_,?_,?_,?_,?_,?_,?_,?_,?_,?_,trivial⟩;rotate_left 12
      · intro l s w6 hall2 hf
        have ec:=hf.2.2.2.2.2.2.2.2.2.2.2.2 (hall2 11 rfl)
        have hb6:Below w5.heap.size w5 w6:=hf.1
        simp only [ec]
        clear ec hf hall2
        have hB6:Below w.heap.size w w6:=bT hB (hC5.trans (hb6.mono hC5.size))
        cases hG:handB11 now hx with
        | true =>
          go_wp2
          go_roundw
          case rel=>exact ⟨k+1,by omega,by go_num,hands_yes hlt HC.out hall.out hG,hB6⟩
          case measure=>simp [intOf];omega
        | false =>
          go_wp2
          go_ret
          exact ⟨ret_bool (hands_no hlt HC.out hG).symm,hB6⟩
      · intro l s wx hl hd hn hf0 K hK
        have hf:=Lib.hid hf0
        clear hf0
        have z:=hpS z_h hf.out.1
        go_simp
        refine hK.out (upd s 28 (.agg (hvals hx))) _ _ (by simp [upd_at] <;> rfl) ⟨hf.out.1,fun _=>rfl,fun h=>absurd h (by rw [show upd l 0 true 1=l 1 from rfl,hn 1 rfl];exact Bool.false_ne_true),fun h=>absurd h (by rw [show upd l 0 true 2=l 2 from rfl,hn 2 rfl];exact Bool.false_ne_true),fun h=>absurd h (by rw [show upd l 0 true 3=l 3 from rfl,hn 3 rfl];exact Bool.false_ne_true),fun h=>absurd h (by rw [show upd l 0 true 4=l 4 from rfl,hn 4 rfl];exact Bool.false_ne_true),fun h=>absurd h (by rw [show upd l 0 true 5=l 5 from rfl,hn 5 rfl];exact Bool.false_ne_true),fun h=>absurd h (by rw [show upd l 0 true 6=l 6 from rfl,hn 6 rfl];exact Bool.false_ne_true),fun h=>absurd h (by rw [show upd l 0 true 7=l 7 from rfl,hn 7 rfl];exact Bool.false_ne_true),fun h=>absurd h (by rw [show upd l 0 true 8=l 8 from rfl,hn 8 rfl];exact Bool.false_ne_true),fun h=>absurd h (by rw [show upd l 0 true 9=l 9 from rfl,hn 9 rfl];exact Bool.false_ne_true),fun h=>absurd h (by rw [show upd l 0 true 10=l 10 from rfl,hn 10 rfl];exact Bool.false_ne_true),fun h=>absurd h (by rw [show upd l 0 true 11=l 11 from rfl,hn 11 rfl];exact Bool.false_ne_true)⟩
      · intro l s wx hl hd hn hf0 K hK
        have hf:=Lib.hid hf0
        clear hf0
        have e0:=(hf.out.2.1 (hd 0 rfl))
        go_simp
        go_at_call 68
        refine (handOk_any hx _).mono ?_
        rintro _ wy ⟨rfl,hE⟩
        refine hK.out (upd s 29 (.bool (handOk hx))) _ _ (by simp [upd_at,e0] <;> rfl) ⟨bT hf.out.1 hE,fun h=>(hf.out.2.1 h),fun _=>rfl,fun h=>absurd h (by rw [show upd l 1 true 2=l 2 from rfl,hn 2 rfl];exact Bool.false_ne_true),fun h=>absurd h (by rw [show upd l 1 true 3=l 3 from rfl,hn 3 rfl];exact Bool.false_ne_true),fun h=>absurd h (by rw [show upd l 1 true 4=l 4 from rfl,hn 4 rfl];exact Bool.false_ne_true),fun h=>absurd h (by rw [show upd l 1 true 5=l 5 from rfl,hn 5 rfl];exact Bool.false_ne_true),fun h=>absurd h (by rw [show upd l 1 true 6=l 6 from rfl,hn 6 rfl];exact Bool.false_ne_true),fun h=>absurd h (by rw [show upd l 1 true 7=l 7 from rfl,hn 7 rfl];exact Bool.false_ne_true),fun h=>absurd h (by rw [show upd l 1 true 8=l 8 from rfl,hn 8 rfl];exact Bool.false_ne_true),fun h=>absurd h (by rw [show upd l 1 true 9=l 9 from rfl,hn 9 rfl];exact Bool.false_ne_true),fun h=>absurd h (by rw [show upd l 1 true 10=l 10 from rfl,hn 10 rfl];exact Bool.false_ne_true),fun h=>absurd h (by rw [show upd l 1 true 11=l 11 from rfl,hn 11 rfl];exact Bool.false_ne_true)⟩
      · intro l s wx hl hd hn hf0 K hK
        have hf:=Lib.hid hf0
        clear hf0
        have e1:=(hf.out.2.2.1 (hd 1 rfl))
        go_simp
        refine hK.out (upd s 30 (.bool (!handOk hx))) _ _ (by simp [upd_at,e1] <;> rfl) ⟨hf.out.1,fun h=>(hf.out.2.1 h),fun h=>(hf.out.2.2.1 h),fun _=>rfl,fun h=>absurd h (by rw [show upd l 2 true 3=l 3 from rfl,hn 3 rfl];exact Bool.false_ne_true),fun h=>absurd h (by rw [show upd l 2 true 4=l 4 from rfl,hn 4 rfl];exact Bool.false_ne_true),fun h=>absurd h (by rw [show upd l 2 true 5=l 5 from rfl,hn 5 rfl];exact Bool.false_ne_true),fun h=>absurd h (by rw [show upd l 2 true 6=l 6 from rfl,hn 6 rfl];exact Bool.false_ne_true),fun h=>absurd h (by rw [show upd l 2 true 7=l 7 from rfl,hn 7 rfl];exact Bool.false_ne_true),fun h=>absurd h (by rw [show upd l 2 true 8=l 8 from rfl,hn 8 rfl];exact Bool.false_ne_true),fun h=>absurd h (by rw [show upd l 2 true 9=l 9 from rfl,hn 9 rfl];exact Bool.false_ne_true),fun h=>absurd h (by rw [show upd l 2 true 10=l 10 from rfl,hn 10 rfl];exact Bool.false_ne_true),fun h=>absurd h (by rw [show upd l 2 true 11=l 11 from rfl,hn 11 rfl];exact Bool.false_ne_true)⟩
      · intro l s wx hl hd hn hf0 K hK
        have hf:=Lib.hid hf0
        clear hf0
        have e2:=(hf.out.2.2.2.1 (hd 2 rfl))
        go_simp
        refine hK.out (upd s 31 (.bool (!handOk hx))) _ _ (by simp [upd_at,e2] <;> rfl) ⟨hf.out.1,fun h=>(hf.out.2.1 h),fun h=>(hf.out.2.2.1 h),fun h=>(hf.out.2.2.2.1 h),fun _=>rfl,fun h=>absurd h (by rw [show upd l 3 true 4=l 4 from rfl,hn 4 rfl];exact Bool.false_ne_true),fun h=>absurd h (by rw [show upd l 3 true 5=l 5 from rfl,hn 5 rfl];exact Bool.false_ne_true),fun h=>absurd h (by rw [show upd l 3 true 6=l 6 from rfl,hn 6 rfl];exact Bool.false_ne_true),fun h=>absurd h (by rw [show upd l 3 true 7=l 7 from rfl,hn 7 rfl];exact Bool.false_ne_true),fun h=>absurd h (by rw [show upd l 3 true 8=l 8 from rfl,hn 8 rfl];exact Bool.false_ne_true),fun h=>absurd h (by rw [show upd l 3 true 9=l 9 from rfl,hn 9 rfl];exact Bool.false_ne_true),fun h=>absurd h (by rw [show upd l 3 true 10=l 10 from rfl,hn 10 rfl];exact Bool.false_ne_true),fun h=>absurd h (by rw [show upd l 3 true 11=l 11 from rfl,hn 11 rfl];exact Bool.false_ne_true)⟩
      · intro l s wx hl hd hn hf0 K hK
        have hf:=Lib.hid hf0
        clear hf0
        have e3:=(hf.out.2.2.2.2.1 (hd 3 rfl))
        cases hG:(handOk hx) with
        | true =>
          rw [hG] at e3
          go_simp
          refine hK.out (upd s 32 (.pointer (some ⟨wr.heap.size,11,none⟩))) _ _ (by simp [upd_at,e3] <;> rfl) ⟨hf.out.1,fun h=>(hf.out.2.1 h),fun h=>(hf.out.2.2.1 h),fun h=>(hf.out.2.2.2.1 h),fun h=>(hf.out.2.2.2.2.1 h),fun _ _=>rfl,fun h=>absurd h (by rw [show upd l 4 true 5=l 5 from rfl,hn 5 rfl];exact Bool.false_ne_true),fun h=>(hf.out.2.2.2.2.2.2.2.1 h),fun h=>(hf.out.2.2.2.2.2.2.2.2.1 h),fun h=>(hf.out.2.2.2.2.2.2.2.2.2.1 h),fun h=>(hf.out.2.2.2.2.2.2.2.2.2.2.1 h),fun h=>absurd h (by rw [show upd l 4 true 10=l 10 from rfl,hn 10 rfl];exact Bool.false_ne_true),fun h=>absurd h (by rw [show upd l 4 true 11=l 11 from rfl,hn 11 rfl];exact Bool.false_ne_true)⟩
        | false =>
          rw [hG] at e3
          go_simp
          refine hK.out (upd s 32 (undef)) _ _ (by simp [upd_at,e3] <;> rfl) ⟨hf.out.1,fun h=>(hf.out.2.1 h),fun h=>(hf.out.2.2.1 h),fun h=>(hf.out.2.2.2.1 h),fun h=>(hf.out.2.2.2.2.1 h),fun _ h=>Bool.noConfusion (h.symm.trans hG),fun h=>absurd h (by rw [show upd l 4 true 5=l 5 from rfl,hn 5 rfl];exact Bool.false_ne_true),fun h=>(hf.out.2.2.2.2.2.2.2.1 h),fun h=>(hf.out.2.2.2.2.2.2.2.2.1 h),fun h=>(hf.out.2.2.2.2.2.2.2.2.2.1 h),fun h=>(hf.out.2.2.2.2.2.2.2.2.2.2.1 h),fun h=>absurd h (by rw [show upd l 4 true 10=l 10 from rfl,hn 10 rfl];exact Bool.false_ne_true),fun h=>absurd h (by rw [show upd l 4 true 11=l 11 from rfl,hn 11 rfl];exact Bool.false_ne_true)⟩
      · intro l s wx hl hd hn hf0 K hK
        have hf:=Lib.hid hf0
        clear hf0
        have e3:=(hf.out.2.2.2.2.1 (hd 3 rfl))
        cases hG:(handOk hx) with
        | true =>
          rw [hG] at e3
          have e4:=(hf.out.2.2.2.2.2.1 (hd 4 rfl)) hG
          have z:=(bO (hpS z_h hf.out.1)).1 11
          go_simp
          refine hK.out (upd s 33 (.int .i64 hx.beg)) _ _ (by simp [upd_at,e3,e4] <;> rfl) ⟨hf.out.1,fun h=>(hf.out.2.1 h),fun h=>(hf.out.2.2.1 h),fun h=>(hf.out.2.2.2.1 h),fun h=>(hf.out.2.2.2.2.1 h),fun h=>(hf.out.2.2.2.2.2.1 h),fun _ _=>rfl,fun h=>(hf.out.2.2.2.2.2.2.2.1 h),fun h=>(hf.out.2.2.2.2.2.2.2.2.1 h),fun h=>(hf.out.2.2.2.2.2.2.2.2.2.1 h),fun h=>(hf.out.2.2.2.2.2.2.2.2.2.2.1 h),fun h=>absurd h (by rw [show upd l 5 true 10=l 10 from rfl,hn 10 rfl];exact Bool.false_ne_true),fun h=>absurd h (by rw [show upd l 5 true 11=l 11 from rfl,hn 11 rfl];exact Bool.false_ne_true)⟩
        | false =>
          rw [hG] at e3
          go_simp
          refine hK.out (upd s 33 (undef)) _ _ (by simp [upd_at,e3] <;> rfl) ⟨hf.out.1,fun h=>(hf.out.2.1 h),fun h=>(hf.out.2.2.1 h),fun h=>(hf.out.2.2.2.1 h),fun h=>(hf.out.2.2.2.2.1 h),fun h=>(hf.out.2.2.2.2.2.1 h),fun _ h=>Bool.noConfusion (h.symm.trans hG),fun h=>(hf.out.2.2.2.2.2.2.2.1 h),fun h=>(hf.out.2.2.2.2.2.2.2.2.1 h),fun h=>(hf.out.2.2.2.2.2.2.2.2.2.1 h),fun h=>(hf.out.2.2.2.2.2.2.2.2.2.2.1 h),fun h=>absurd h (by rw [show upd l 5 true 10=l 10 from rfl,hn 10 rfl];exact Bool.false_ne_true),fun h=>absurd h (by rw [show upd l 5 true 11=l 11 from rfl,hn 11 rfl];exact Bool.false_ne_true)⟩
      · intro l s wx hl hd hn hf0 K hK
        have hf:=Lib.hid hf0
        clear hf0
        have e3:=(hf.out.2.2.2.2.1 (hd 3 rfl))
        cases hG:(handOk hx) with
        | true =>
          rw [hG] at e3
          go_simp
          refine hK.out (upd s 34 (.pointer (some ⟨B,0,none⟩))) _ _ (by simp [upd_at,e3] <;> rfl) ⟨hf.out.1,fun h=>(hf.out.2.1 h),fun h=>(hf.out.2.2.1 h),fun h=>(hf.out.2.2.2.1 h),fun h=>(hf.out.2.2.2.2.1 h),fun h=>(hf.out.2.2.2.2.2.1 h),fun h=>(hf.out.2.2.2.2.2.2.1 h),fun _ _=>rfl,fun h=>absurd h (by rw [show upd l 6 true 7=l 7 from rfl,hn 7 rfl];exact Bool.false_ne_true),fun h=>absurd h (by rw [show upd l 6 true 8=l 8 from rfl,hn 8 rfl];exact Bool.false_ne_true),fun h=>absurd h (by rw [show upd l 6 true 9=l 9 from rfl,hn 9 rfl];exact Bool.false_ne_true),fun h=>absurd h (by rw [show upd l 6 true 10=l 10 from rfl,hn 10 rfl];exact Bool.false_ne_true),fun h=>absurd h (by rw [show upd l 6 true 11=l 11 from rfl,hn 11 rfl];exact Bool.false_ne_true)⟩
        | false =>
          rw [hG] at e3
          go_simp
          refine hK.out (upd s 34 (undef)) _ _ (by simp [upd_at,e3] <;> rfl) ⟨hf.out.1,fun h=>(hf.out.2.1 h),fun h=>(hf.out.2.2.1 h),fun h=>(hf.out.2.2.2.1 h),fun h=>(hf.out.2.2.2.2.1 h),fun h=>(hf.out.2.2.2.2.2.1 h),fun h=>(hf.out.2.2.2.2.2.2.1 h),fun _ h=>Bool.noConfusion (h.symm.trans hG),fun h=>absurd h (by rw [show upd l 6 true 7=l 7 from rfl,hn 7 rfl];exact Bool.false_ne_true),fun h=>absurd h (by rw [show upd l 6 true 8=l 8 from rfl,hn 8 rfl];exact Bool.false_ne_true),fun h=>absurd h (by rw [show upd l 6 true 9=l 9 from rfl,hn 9 rfl];exact Bool.false_ne_true),fun h=>absurd h (by rw [show upd l 6 true 10=l 10 from rfl,hn 10 rfl];exact Bool.false_ne_true),fun h=>absurd h (by rw [show upd l 6 true 11=l 11 from rfl,hn 11 rfl];exact Bool.false_ne_true)⟩
      · intro l s wx hl hd hn hf0 K hK
        have hf:=Lib.hid hf0
        clear hf0
        have e3:=(hf.out.2.2.2.2.1 (hd 3 rfl))
        cases hG:(handOk hx) with
        | true =>
          rw [hG] at e3
          have e6:=(hf.out.2.2.2.2.2.2.2.1 (hd 6 rfl)) hG
          go_simp
          refine hK.out (upd s 35 (.pointer (some ⟨B,0,none⟩))) _ _ (by simp [upd_at,e3,e6] <;> rfl) ⟨hf.out.1,fun h=>(hf.out.2.1 h),fun h=>(hf.out.2.2.1 h),fun h=>(hf.out.2.2.2.1 h),fun h=>(hf.out.2.2.2.2.1 h),fun h=>(hf.out.2.2.2.2.2.1 h),fun h=>(hf.out.2.2.2.2.2.2.1 h),fun h=>(hf.out.2.2.2.2.2.2.2.1 h),fun _ _=>rfl,fun h=>absurd h (by rw [show upd l 7 true 8=l 8 from rfl,hn 8 rfl];exact Bool.false_ne_true),fun h=>absurd h (by rw [show upd l 7 true 9=l 9 from rfl,hn 9 rfl];exact Bool.false_ne_true),fun h=>absurd h (by rw [show upd l 7 true 10=l 10 from rfl,hn 10 rfl];exact Bool.false_ne_true),fun h=>absurd h (by rw [show upd l 7 true 11=l 11 from rfl,hn 11 rfl];exact Bool.false_ne_true)⟩
        | false =>
          rw [hG] at e3
          go_simp
          refine hK.out (upd s 35 (undef)) _ _ (by simp [upd_at,e3] <;> rfl) ⟨hf.out.1,fun h=>(hf.out.2.1 h),fun h=>(hf.out.2.2.1 h),fun h=>(hf.out.2.2.2.1 h),fun h=>(hf.out.2.2.2.2.1 h),fun h=>(hf.out.2.2.2.2.2.1 h),fun h=>(hf.out.2.2.2.2.2.2.1 h),fun h=>(hf.out.2.2.2.2.2.2.2.1 h),fun _ h=>Bool.noConfusion (h.symm.trans hG),fun h=>absurd h (by rw [show upd l 7 true 8=l 8 from rfl,hn 8 rfl];exact Bool.false_ne_true),fun h=>absurd h (by rw [show upd l 7 true 9=l 9 from rfl,hn 9 rfl];exact Bool.false_ne_true),fun h=>absurd h (by rw [show upd l 7 true 10=l 10 from rfl,hn 10 rfl];exact Bool.false_ne_true),fun h=>absurd h (by rw [show upd l 7 true 11=l 11 from rfl,hn 11 rfl];exact Bool.false_ne_true)⟩
      · intro l s wx hl hd hn hf0 K hK
        have hf:=Lib.hid hf0
        clear hf0
        have e3:=(hf.out.2.2.2.2.1 (hd 3 rfl))
        cases hG:(handOk hx) with
        | true =>
          rw [hG] at e3
          have e7:=(hf.out.2.2.2.2.2.2.2.2.1 (hd 7 rfl)) hG
          go_simp
          refine hK.out (upd s 36 (.pointer (some ⟨B,8,none⟩))) _ _ (by simp [upd_at,e3,e7] <;> rfl) ⟨hf.out.1,fun h=>(hf.out.2.1 h),fun h=>(hf.out.2.2.1 h),fun h=>(hf.out.2.2.2.1 h),fun h=>(hf.out.2.2.2.2.1 h),fun h=>(hf.out.2.2.2.2.2.1 h),fun h=>(hf.out.2.2.2.2.2.2.1 h),fun h=>(hf.out.2.2.2.2.2.2.2.1 h),fun h=>(hf.out.2.2.2.2.2.2.2.2.1 h),fun _ _=>rfl,fun h=>absurd h (by rw [show upd l 8 true 9=l 9 from rfl,hn 9 rfl];exact Bool.false_ne_true),fun h=>absurd h (by rw [show upd l 8 true 10=l 10 from rfl,hn 10 rfl];exact Bool.false_ne_true),fun h=>absurd h (by rw [show upd l 8 true 11=l 11 from rfl,hn 11 rfl];exact Bool.false_ne_true)⟩
        | false =>
          rw [hG] at e3
          go_simp
          refine hK.out (upd s 36 (undef)) _ _ (by simp [upd_at,e3] <;> rfl) ⟨hf.out.1,fun h=>(hf.out.2.1 h),fun h=>(hf.out.2.2.1 h),fun h=>(hf.out.2.2.2.1 h),fun h=>(hf.out.2.2.2.2.1 h),fun h=>(hf.out.2.2.2.2.2.1 h),fun h=>(hf.out.2.2.2.2.2.2.1 h),fun h=>(hf.out.2.2.2.2.2.2.2.1 h),fun h=>(hf.out.2.2.2.2.2.2.2.2.1 h),fun _ h=>Bool.noConfusion (h.symm.trans hG),fun h=>absurd h (by rw [show upd l 8 true 9=l 9 from rfl,hn 9 rfl];exact Bool.false_ne_true),fun h=>absurd h (by rw [show upd l 8 true 10=l 10 from rfl,hn 10 rfl];exact Bool.false_ne_true),fun h=>absurd h (by rw [show upd l 8 true 11=l 11 from rfl,hn 11 rfl];exact Bool.false_ne_true)⟩
      · intro l s wx hl hd hn hf0 K hK
        have hf:=Lib.hid hf0
        clear hf0
        have e3:=(hf.out.2.2.2.2.1 (hd 3 rfl))
        cases hG:(handOk hx) with
        | true =>
          rw [hG] at e3
          have e8:=(hf.out.2.2.2.2.2.2.2.2.2.1 (hd 8 rfl)) hG
          have z:=((hf.out.1).cell (p:=⟨B,8,none⟩) (by omega)).trans y8
          go_simp
          refine hK.out (upd s 37 (.int .i64 now)) _ _ (by simp [upd_at,e3,e8] <;> rfl) ⟨hf.out.1,fun h=>(hf.out.2.1 h),fun h=>(hf.out.2.2.1 h),fun h=>(hf.out.2.2.2.1 h),fun h=>(hf.out.2.2.2.2.1 h),fun h=>(hf.out.2.2.2.2.2.1 h),fun h=>(hf.out.2.2.2.2.2.2.1 h),fun h=>(hf.out.2.2.2.2.2.2.2.1 h),fun h=>(hf.out.2.2.2.2.2.2.2.2.1 h),fun h=>(hf.out.2.2.2.2.2.2.2.2.2.1 h),fun _ _=>rfl,fun h=>absurd h (by rw [show upd l 9 true 10=l 10 from rfl,hn 10 rfl];exact Bool.false_ne_true),fun h=>absurd h (by rw [show upd l 9 true 11=l 11 from rfl,hn 11 rfl];exact Bool.false_ne_true)⟩
        | false =>
          rw [hG] at e3
          go_simp
          refine hK.out (upd s 37 (undef)) _ _ (by simp [upd_at,e3] <;> rfl) ⟨hf.out.1,fun h=>(hf.out.2.1 h),fun h=>(hf.out.2.2.1 h),fun h=>(hf.out.2.2.2.1 h),fun h=>(hf.out.2.2.2.2.1 h),fun h=>(hf.out.2.2.2.2.2.1 h),fun h=>(hf.out.2.2.2.2.2.2.1 h),fun h=>(hf.out.2.2.2.2.2.2.2.1 h),fun h=>(hf.out.2.2.2.2.2.2.2.2.1 h),fun h=>(hf.out.2.2.2.2.2.2.2.2.2.1 h),fun _ h=>Bool.noConfusion (h.symm.trans hG),fun h=>absurd h (by rw [show upd l 9 true 10=l 10 from rfl,hn 10 rfl];exact Bool.false_ne_true),fun h=>absurd h (by rw [show upd l 9 true 11=l 11 from rfl,hn 11 rfl];exact Bool.false_ne_true)⟩
      · intro l s wx hl hd hn hf0 K hK
        have hf:=Lib.hid hf0
        clear hf0
        have e3:=(hf.out.2.2.2.2.1 (hd 3 rfl))
        cases hG:(handOk hx) with
        | true =>
          rw [hG] at e3
          have e5:=(hf.out.2.2.2.2.2.2.1 (hd 5 rfl)) hG
          have e9:=(hf.out.2.2.2.2.2.2.2.2.2.2.1 (hd 9 rfl)) hG
          go_simp
          refine hK.out (upd s 38 (.bool (decide (now<hx.beg)))) _ _ (by simp [upd_at,e3,e5,e9] <;> rfl) ⟨hf.out.1,fun h=>(hf.out.2.1 h),fun h=>(hf.out.2.2.1 h),fun h=>(hf.out.2.2.2.1 h),fun h=>(hf.out.2.2.2.2.1 h),fun h=>(hf.out.2.2.2.2.2.1 h),fun h=>(hf.out.2.2.2.2.2.2.1 h),fun h=>(hf.out.2.2.2.2.2.2.2.1 h),fun h=>(hf.out.2.2.2.2.2.2.2.2.1 h),fun h=>(hf.out.2.2.2.2.2.2.2.2.2.1 h),fun h=>(hf.out.2.2.2.2.2.2.2.2.2.2.1 h),fun _ _=>rfl,fun h=>absurd h (by rw [show upd l 10 true 11=l 11 from rfl,hn 11 rfl];exact Bool.false_ne_true)⟩
        | false =>
          rw [hG] at e3
          go_simp
          refine hK.out (upd s 38 (undef)) _ _ (by simp [upd_at,e3] <;> rfl) ⟨hf.out.1,fun h=>(hf.out.2.1 h),fun h=>(hf.out.2.2.1 h),fun h=>(hf.out.2.2.2.1 h),fun h=>(hf.out.2.2.2.2.1 h),fun h=>(hf.out.2.2.2.2.2.1 h),fun h=>(hf.out.2.2.2.2.2.2.1 h),fun h=>(hf.out.2.2.2.2.2.2.2.1 h),fun h=>(hf.out.2.2.2.2.2.2.2.2.1 h),fun h=>(hf.out.2.2.2.2.2.2.2.2.2.1 h),fun h=>(hf.out.2.2.2.2.2.2.2.2.2.2.1 h),fun _ h=>Bool.noConfusion (h.symm.trans hG),fun h=>absurd h (by rw [show upd l 10 true 11=l 11 from rfl,hn 11 rfl];exact Bool.false_ne_true)⟩
      · intro l s wx hl hd hn hf0 K hK
        have hf:=Lib.hid hf0
        clear hf0
        have e3:=(hf.out.2.2.2.2.1 (hd 3 rfl))
        have e10:=(hf.out.2.2.2.2.2.2.2.2.2.2.2.1 (hd 10 rfl))
        cases hG:(handOk hx) with
        | true =>
          rw [hG] at e3
          replace e10:=e10 hG
          go_simp
          refine hK.out (upd s 39 (.bool (decide (now<hx.beg)))) _ _ (by simp [upd_at,e3,e10] <;> rfl) ⟨hf.out.1,fun h=>(hf.out.2.1 h),fun h=>(hf.out.2.2.1 h),fun h=>(hf.out.2.2.2.1 h),fun h=>(hf.out.2.2.2.2.1 h),fun h=>(hf.out.2.2.2.2.2.1 h),fun h=>(hf.out.2.2.2.2.2.2.1 h),fun h=>(hf.out.2.2.2.2.2.2.2.1 h),fun h=>(hf.out.2.2.2.2.2.2.2.2.1 h),fun h=>(hf.out.2.2.2.2.2.2.2.2.2.1 h),fun h=>(hf.out.2.2.2.2.2.2.2.2.2.2.1 h),fun h=>(hf.out.2.2.2.2.2.2.2.2.2.2.2.1 h),fun _=>by rw [show (upd s 39 (.bool (decide (now<hx.beg)))) 39=.bool (decide (now<hx.beg)) from rfl,handB_y hG]⟩
        | false =>
          clear e10
          rw [hG] at e3
          go_simp
          refine hK.out (upd s 39 (.bool true)) _ _ (by simp [upd_at,e3] <;> rfl) ⟨hf.out.1,fun h=>(hf.out.2.1 h),fun h=>(hf.out.2.2.1 h),fun h=>(hf.out.2.2.2.1 h),fun h=>(hf.out.2.2.2.2.1 h),fun h=>(hf.out.2.2.2.2.2.1 h),fun h=>(hf.out.2.2.2.2.2.2.1 h),fun h=>(hf.out.2.2.2.2.2.2.2.1 h),fun h=>(hf.out.2.2.2.2.2.2.2.2.1 h),fun h=>(hf.out.2.2.2.2.2.2.2.2.2.1 h),fun h=>(hf.out.2.2.2.2.2.2.2.2.2.2.1 h),fun h=>(hf.out.2.2.2.2.2.2.2.2.2.2.2.1 h),fun _=>by rw [show (upd s 39 (.bool true)) 39=.bool true from rfl,handB_n hG]⟩
    · have:k=hs.length:=by omega
      subst this
      have h1:=hall.out
      rw [List.take_length] at h1
      go_wp2
      go_ret
      exact ⟨ret_bool h1.symm,hB⟩
end Go.Proofs.Ytgpdocmclkpknaa
