/-
  The program's NewChan, KeptIn and WaitingIn; lists lie in memory and hold at most what memory can hold.
  The contract of the program's LiveIn; lists lie in memory.
-/
import Derived.Test.YtikhaaccgoiaeaaP23
set_option linter.unusedSimpArgs false
set_option linter.unusedVariables false
namespace Go.Proofs.Ytikhaaccgoiaeaa
open Go.RowKit
theorem Lie.take {w:World} {b n m k:Nat} {f:Nat→Nat→Value} (h:Lie w b n k f) (hm:m≤n):Lie w b m k f:=by
  obtain ⟨c,t,hb,hn,hc⟩:=h
  exact ⟨c,t,hb,Nat.le_trans (Nat.mul_le_mul_right k hm) hn,fun i j hi hj=>hc i j (by omega) hj⟩
theorem Lie.alloc {w:World} {b n k:Nat} {f:Nat→Nat→Value} (h:Lie w b n k f) (o:Obj):Lie (w.alloc o) b n k f:=h.of_block (Below.heap_alloc w o b h.lt)
theorem intF_snoc (l:List Int) (x:Int) (i j:Nat):(if i=l.length then Value.int .i64 x else intF l i j)=intF (l ++ [x]) i j:=by
  unfold intF
  by_cases e:i=l.length
  · subst e;simp [List.getD]
  · rw [if_neg e]
    by_cases e2:i<l.length
    · simp [List.getD,List.getElem?_append_left e2]
    · have h1:l[i]?=none:=List.getElem?_eq_none (by omega)
      have h2:(l ++ [x])[i]?=none:=List.getElem?_eq_none (by simp;omega)
      simp [List.getD,h1,h2]
set_option maxRecDepth 100000 in
theorem lie_row (w:World) (g:Nat) (h:g=w.heap.size):Lie (w.alloc (.cells #[.int .i64 0,.int .i64 0,.int .i64 0,.int .i64 0,.int .i64 0,.int .i64 0,.int .i64 0,.int .i64 0,.int .i64 0,.int .i64 0,.int .i64 0,.int .i64 0,.int .i64 0,.int .i64 0,.int .i64 0,.int .i64 0,.int .i64 0,.int .i64 0,.int .i64 0,.int .i64 0,.int .i64 0,.int .i64 0,.int .i64 0,.int .i64 0,.int .i64 0,.int .i64 0,.int .i64 0,.int .i64 0,.int .i64 0,.int .i64 0,.int .i64 0,.int .i64 0,.int .i64 0,.int .i64 0,.int .i64 0,.int .i64 0,.int .i64 0,.int .i64 0,.int .i64 0,.int .i64 0] 73)) g 40 1 (intF []):=by
  subst h
  refine ⟨_,_,heap_alloc_new w _,by simp,fun i j hi hj=>?_⟩
  have:j=0:=by omega
  subst this
  have e:(#[Value.int .i64 0,.int .i64 0,.int .i64 0,.int .i64 0,.int .i64 0,.int .i64 0,.int .i64 0,.int .i64 0,.int .i64 0,.int .i64 0,.int .i64 0,.int .i64 0,.int .i64 0,.int .i64 0,.int .i64 0,.int .i64 0,.int .i64 0,.int .i64 0,.int .i64 0,.int .i64 0,.int .i64 0,.int .i64 0,.int .i64 0,.int .i64 0,.int .i64 0,.int .i64 0,.int .i64 0,.int .i64 0,.int .i64 0,.int .i64 0,.int .i64 0,.int .i64 0,.int .i64 0,.int .i64 0,.int .i64 0,.int .i64 0,.int .i64 0,.int .i64 0,.int .i64 0,.int .i64 0]:Array Value)=Array.replicate 40 (.int .i64 0):=rfl
  rw [e]
  simp [intF,hi]
set_option maxRecDepth 100000 in
set_option maxHeartbeats 1000000 in
theorem waitingIn_any (c:Ch) (st:Int) (a b:Option Addr) (p q:Nat) (w:World) (h1:Seg w w.heap.size a c.cells.length 3 (cellF c.cells)) (h2:Seg w w.heap.size b c.words.length 1 (intF c.words)) (m1:c.cells.length≤maxLen) (m2:c.words.length≤maxLen) :
    Calls Try.prog 19 #[.agg #[.int .i64 c.cap,.int .i64 c.sent,.int .i64 c.got,.int .i64 c.fin,.slice a c.cells.length p,.slice b c.words.length q],.int .i64 st] w fun r w'=>(∃ v,r=.returned v∧NewI w' w.heap.size v (waitingIn c st))∧Below w.heap.size w w':=by
  have H1:=Lib.hid h1
  have H2:=Lib.hid h2
  have M1:=Lib.hid m1
  have M2:=Lib.hid m2
  clear h1 h2 m1 m2
  by_cases hc:chanOk c=true
  · have HV:Hid (atTo c.cells st c.cells.length=waitingIn c st):=by simp [waitingIn,hc,Hid,atTo_end]
    have h40:c.cells.length≤40:=by
      have:=chanOk_parts c ▸ hc
      simp [cellsB] at this
      omega
    go_enter Try.func19,Try.ntmps19
    go_wp2_with fail
    refine (chanOk_any c a b p q _ (((H1.out).below (by (repeat (with_reducible first|assumption|exact bR|refine bA ?_|refine bD ?_|((first|refine bS ?_ ?_|refine bBx ?_ ?_);rotate_left;focus (try simp) <;> (try omega)))))).more (by simp)) (((H2.out).below (by (repeat (with_reducible first|assumption|exact bR|refine bA ?_|refine bD ?_|((first|refine bS ?_ ?_|refine bBx ?_ ?_);rotate_left;focus (try simp) <;> (try omega)))))).more (by simp)) M1.out M2.out).mono ?_
    rintro _ w1 ⟨rfl,hb1⟩
    have hB1:Below w.heap.size w w1:=bT (by (repeat (with_reducible first|assumption|exact bR|refine bA ?_|refine bD ?_|((first|refine bS ?_ ?_|refine bBx ?_ ?_);rotate_left;focus (try simp) <;> (try omega))))) hb1
    have hs1:=hb1.size
    simp at hs1
    have:=fun o=>hb1.cell (p:=⟨w.heap.size,o,none⟩) (by simp)
    have:w.heap.size<w1.heap.size:=by omega
    clear hb1
    have hL0:=lie_row w1 w1.heap.size rfl
    have HLL:=Lib.hid hL0
    clear hL0
    go_wp2_with fail
    go_loopw [6,15] (fun n i wr=>∃ k:Nat,k≤c.cells.length∧i=.int .i64 k∧n=.int .i64 (atTo c.cells st k).length∧Lie wr w1.heap.size 40 1 (intF (atTo c.cells st k))∧Below w.heap.size w wr) (fun _ i _=>c.cells.length - (intOf i).toNat)
    case atStart=>exact ⟨0,Nat.zero_le _,rfl,by simp [atTo_0],by rw [atTo_0];exact HLL.out,by (repeat (with_reducible first|assumption|exact bR|refine bA ?_|refine bD ?_|((first|refine bS ?_ ?_|refine bBx ?_ ?_);rotate_left;focus (try simp) <;> (try omega))))⟩
    case round =>
      obtain ⟨k,hk,rfl,rfl,hL,hB⟩:=hrel
      have hs:=hB.size
      have hl:=hL.lt
      by_cases hlt:k<c.cells.length
      · obtain h0|⟨bb,bo,rfl,hb,hcc⟩:=H1.out
        · omega
        have c0:=(hB.cell (p:=⟨bb,bo+k*3+0,none⟩) hb).trans (hcc k 0 hlt (by omega))
        have c1:=(hB.cell (p:=⟨bb,bo+k*3+1,none⟩) hb).trans (hcc k 1 hlt (by omega))
        have c2:=(hB.cell (p:=⟨bb,bo+k*3+2,none⟩) hb).trans (hcc k 2 hlt (by omega))
        simp only [cellF,C3.val,Nat.add_zero] at c0 c1 c2
        clear hcc
        generalize hcg:c.cells.getD k ⟨0,0,0⟩=d at c0 c1 c2
        have HC:=Lib.hid hcg
        clear hcg
        have hle:=atTo_len c.cells st k
        have e0:=hL.cell (i:=(atTo c.cells st k).length) (j:=0) (by omega) (by omega)
        simp only [Nat.add_zero,Nat.mul_one] at e0
        have f1:=hL.frozen
        have hn0:(0:Int)≤((atTo c.cells st k).length:Int):=by omega
        have hn1:((atTo c.cells st k).length:Int)<40:=by omega
        go_wp2
        · go_roundw
          case rel=>exact ⟨k+1,by omega,by go_num,by rw [atTo_yes hlt HC.out ‹_›];simp,by rw [atTo_yes hlt HC.out ‹_›];exact ((hL.set1 (by omega) (.int .i64 k)).congr (fun i j _ _=>intF_snoc _ _ i j)).alloc _,by (repeat (with_reducible first|assumption|exact bR|refine bA ?_|refine bD ?_|((first|refine bS ?_ ?_|refine bBx ?_ ?_);rotate_left;focus (try simp) <;> (try omega))))⟩
          case measure=>simp [intOf];omega
        · go_roundw
          case rel=>exact ⟨k+1,by omega,by go_num,by rw [atTo_no hlt HC.out ‹_›],by rw [atTo_no hlt HC.out ‹_›];exact hL.alloc _,by (repeat (with_reducible first|assumption|exact bR|refine bA ?_|refine bD ?_|((first|refine bS ?_ ?_|refine bBx ?_ ?_);rotate_left;focus (try simp) <;> (try omega))))⟩
          case measure=>simp [intOf];omega
      · have:k=c.cells.length:=by omega
        subst this
        have hle:=atTo_len c.cells st c.cells.length
        go_wp2_with (go_at_call 52;refine (cutI_any (atTo c.cells st c.cells.length).length (by omega) _ _).mono ?_;rintro _ _ ⟨rfl,rfl⟩)
        go_ret
        exact ⟨⟨_,rfl,HV.out ▸ .inr ⟨_,_,rfl,by omega,hL.take (by omega)⟩⟩,hB⟩
  · have HV:Hid ([]=waitingIn c st):=by simp [waitingIn,hc,Hid]
    go_enter Try.func19,Try.ntmps19
    go_wp2_with fail
    refine (chanOk_any c a b p q _ (((H1.out).below (by (repeat (with_reducible first|assumption|exact bR|refine bA ?_|refine bD ?_|((first|refine bS ?_ ?_|refine bBx ?_ ?_);rotate_left;focus (try simp) <;> (try omega)))))).more (by simp)) (((H2.out).below (by (repeat (with_reducible first|assumption|exact bR|refine bA ?_|refine bD ?_|((first|refine bS ?_ ?_|refine bBx ?_ ?_);rotate_left;focus (try simp) <;> (try omega)))))).more (by simp)) M1.out M2.out).mono ?_
    rintro _ w1 ⟨rfl,hb1⟩
    have hB1:Below w.heap.size w w1:=bT (by (repeat (with_reducible first|assumption|exact bR|refine bA ?_|refine bD ?_|((first|refine bS ?_ ?_|refine bBx ?_ ?_);rotate_left;focus (try simp) <;> (try omega))))) hb1
    go_wp2
    go_ret
    exact ⟨⟨_,rfl,HV.out ▸ .inl ⟨rfl,rfl⟩⟩,hB1⟩
def kf (cells:List C3) (l:List Int) (k i j:Nat):Value:=if i<k then .int .i64 (elemOf cells (l.getD i 0)) else intF l i j
theorem kf_0 (cells:List C3) (l:List Int):kf cells l 0=intF l:=by funext i j;simp [kf]
theorem kf_step {cells:List C3} {l:List Int} {k:Nat} {x:Int} (h:elemOf cells (l.getD k 0)=x) (i j:Nat):(if i=k then Value.int .i64 x else kf cells l k i j)=kf cells l (k+1) i j:=by
  unfold kf
  by_cases e:i=k
  · subst e;rw [if_pos rfl,if_pos (by omega),h]
  · rw [if_neg e]
    by_cases e2:i<k
    · rw [if_pos e2,if_pos (by omega)]
    · rw [if_neg e2,if_neg (by omega)]
theorem kf_end {c:Ch} (h:chanOk c=true):∀ i j,i<(atS c 2).length→j<1→kf c.cells (atS c 2) (atS c 2).length i j=intF (keptIn c) i j:=fun i j hi _=>by
  have e:keptIn c=(atS c 2).map (elemOf c.cells):=by unfold keptIn;rw [if_pos h];rfl
  rw [e]
  simp [kf,intF,hi,List.getD]
theorem kept_len {c:Ch} (h:chanOk c=true):(keptIn c).length=(atS c 2).length:=by unfold keptIn;rw [if_pos h];simp
set_option maxRecDepth 100000 in
set_option maxHeartbeats 1000000 in
theorem keptIn_any (c:Ch) (a b:Option Addr) (p q:Nat) (w:World) (h1:Seg w w.heap.size a c.cells.length 3 (cellF c.cells)) (h2:Seg w w.heap.size b c.words.length 1 (intF c.words)) (m1:c.cells.length≤maxLen) (m2:c.words.length≤maxLen) :
    Calls Try.prog 17 #[.agg #[.int .i64 c.cap,.int .i64 c.sent,.int .i64 c.got,.int .i64 c.fin,.slice a c.cells.length p,.slice b c.words.length q]] w fun r w'=>(∃ v,r=.returned v∧NewI w' w.heap.size v (keptIn c))∧Below w.heap.size w w':=by
  have H1:=Lib.hid h1
  have H2:=Lib.hid h2
  have M1:=Lib.hid m1
  have M2:=Lib.hid m2
  clear h1 h2 m1 m2
  go_enter Try.func17,Try.ntmps17
  go_wp2_with fail
  refine (waitingIn_any c 2 a b p q _ (((H1.out).below (by (repeat (with_reducible first|assumption|exact bR|refine bA ?_|refine bD ?_|((first|refine bS ?_ ?_|refine bBx ?_ ?_);rotate_left;focus (try simp) <;> (try omega)))))).more (by simp)) (((H2.out).below (by (repeat (with_reducible first|assumption|exact bR|refine bA ?_|refine bD ?_|((first|refine bS ?_ ?_|refine bBx ?_ ?_);rotate_left;focus (try simp) <;> (try omega)))))).more (by simp)) M1.out M2.out).mono ?_
  rintro _ w1 ⟨⟨v1,rfl,hN⟩,hb1⟩
  have hB1:Below w.heap.size w w1:=bT (by (repeat (with_reducible first|assumption|exact bR|refine bA ?_|refine bD ?_|((first|refine bS ?_ ?_|refine bBx ?_ ?_);rotate_left;focus (try simp) <;> (try omega))))) hb1
  have hs1:=hb1.size
  simp at hs1 hN
  have hx4:w1.cell? ⟨w.heap.size,4,none⟩=some (.slice a c.cells.length p):=(hb1.cell (p:=⟨w.heap.size,4,none⟩) (by simp)).trans (by simp)
  by_cases hc:chanOk c=true
  · have e1:waitingIn c 2=atS c 2:=by simp [waitingIn,hc]
    rw [e1] at hN
    have HE:=Lib.hid (kf_end hc)
    have HK:=Lib.hid (kept_len hc)
    have HL:Hid (∀ x ∈ atS c 2,∃ k:Nat,x=(k:Int)∧k<c.cells.length):=fun x hx=>by
      obtain ⟨k,h1,_,h3⟩:=atFrom_mem 2 c.cells 0 x hx
      exact ⟨k,h1,by omega⟩
    have h40:c.cells.length≤40:=by
      have:=chanOk_parts c ▸ hc
      simp [cellsB] at this
      omega
    have hll:(atS c 2).length≤c.cells.length:=by have:=atFrom_len 2 c.cells 0;unfold atS;omega
    clear hb1 e1 hc
    generalize atS c 2=l at *
    rcases hN with ⟨rfl,hn0⟩|⟨g,cap,rfl,hlo,hL⟩
    · go_wp2_with fail
      go_loopw [10] (fun i wr=>i=.int .i64 0∧wr=w1) (fun i _=>0 - (intOf i).toNat)
      case atStart=>exact ⟨rfl,rfl⟩
      case round =>
        obtain ⟨rfl,rfl⟩:=hrel
        go_wp2
        go_ret
        exact ⟨⟨_,rfl,.inl ⟨rfl,by rw [HK.out,hn0]⟩⟩,hB1⟩
    · go_wp2_with fail
      go_loopw [10] (fun i wr=>∃ k:Nat,k≤l.length∧i=.int .i64 k∧Lie wr g l.length 1 (kf c.cells l k)∧wr.cell? ⟨w.heap.size,4,none⟩=some (.slice a c.cells.length p)∧Below w.heap.size w wr) (fun i _=>l.length - (intOf i).toNat)
      case atStart=>exact ⟨0,Nat.zero_le _,rfl,by rw [kf_0];exact hL,hx4,hB1⟩
      case round =>
        clear hL hx4 hB1
        obtain ⟨k,hk,rfl,hL,x4,hB⟩:=hrel
        have hs:=hB.size
        have hl:=hL.lt
        by_cases hlt:k<l.length
        · obtain ⟨i,hxi,hi⟩:=HL.out (l.getD k 0) (by rw [List.getD,List.getElem?_eq_getElem hlt];exact List.getElem_mem hlt)
          obtain h0|⟨bb,bo,rfl,hb,hcc⟩:=H1.out
          · omega
          have c1:=(hB.cell (p:=⟨bb,bo+i*3+1,none⟩) hb).trans (hcc i 1 hi (by omega))
          simp only [cellF,C3.val] at c1
          clear hcc
          have he:elemOf c.cells (l.getD k 0)=(c.cells.getD i ⟨0,0,0⟩).e:=by rw [hxi];simp [elemOf]
          have HEx:=Lib.hid he
          generalize (c.cells.getD i ⟨0,0,0⟩).e=ev at c1 HEx
          clear he
          have cl:=hL.cell (i:=k) (j:=0) hlt (by omega)
          simp only [Nat.add_zero,Nat.mul_one,kf,Nat.lt_irrefl,if_false,intF,hxi] at cl
          have f1:=hL.frozen
          have HX:=Lib.hid hxi
          clear hxi
          have hk0:(0:Int)≤(k:Int):=by omega
          have hk1:(k:Int)<(l.length:Int):=by omega
          have hin0:(0:Int)≤(i:Int):=by omega
          have hin1:(i:Int)<(c.cells.length:Int):=by omega
          have hne:w.heap.size≠g:=by omega
          have hbg:bb≠g:=by omega
          go_wp2
          go_roundw
          case rel=>exact ⟨k+1,by omega,by go_num,(hL.set1 hlt (.int .i64 ev)).congr (fun i j _ _=>kf_step HEx.out i j),(World.cell?_setCell_other _ _ _ _ (fun e=>by simp at e)).trans x4,by (repeat (with_reducible first|assumption|exact bR|refine bA ?_|refine bD ?_|((first|refine bS ?_ ?_|refine bBx ?_ ?_);rotate_left;focus (try simp) <;> (try omega))))⟩
          case measure=>simp [intOf];omega
        · have:k=l.length:=by omega
          subst this
          go_wp2
          go_ret
          exact ⟨⟨.slice (some ⟨g,0,none⟩) l.length cap,rfl,.inr ⟨g,cap,by rw [HK.out],by omega,by rw [HK.out];exact hL.congr HE.out⟩⟩,hB⟩
  · have e1:waitingIn c 2=[]:=by simp [waitingIn,hc]
    have e2:keptIn c=[]:=by simp [keptIn,hc]
    rw [e1] at hN
    have HV:Hid (keptIn c=[]):=e2
    clear hb1 e1 e2 hc
    obtain ⟨va,vc,rfl,_⟩:=hN.seg
    go_wp2_with fail
    go_loopw [10] (fun i wr=>i=.int .i64 0∧wr=w1) (fun i _=>0 - (intOf i).toNat)
    case atStart=>exact ⟨rfl,rfl⟩
    case round =>
      obtain ⟨rfl,rfl⟩:=hrel
      go_wp2
      go_ret
      exact ⟨⟨_,rfl,HV.out ▸ hN.more (by omega)⟩,hB1⟩
theorem infoRow:(Try.prog.info? 64).map (fun i=>(i.zero,i.size,i.bytes))=some (some (.agg (Array.replicate 120 (.int .i64 0))),120,960):=by kernel_rfl
set_option maxRecDepth 100000 in
theorem zeroRow (w:World):(zeroValue 64).run Try.prog w=.ok (.agg (Array.replicate 120 (.int .i64 0))) w:=by
  obtain ⟨i,hi,hz,_⟩:=info_parts infoRow
  have e:Try.prog.info? 64=some Try.t64:=by kernel_rfl
  obtain rfl:Try.t64=i:=by rw [e] at hi;exact Option.some.inj hi
  simp [zeroValue,go_sem,hz]
theorem cellF_zero (n i j:Nat):cellF (List.replicate n C3.zero) i j=.int .i64 0:=by
  have e:(List.replicate n C3.zero).getD i ⟨0,0,0⟩=⟨0,0,0⟩:=by
    unfold List.getD;rw [List.getElem?_replicate];split <;> rfl
  unfold cellF
  rw [e]
  match j with
  | 0=>rfl
  | 1=>rfl
  | n+2=>rfl
set_option maxRecDepth 100000 in
theorem lie_cells (w:World) (g:Nat) (h:g=w.heap.size):Lie (w.alloc (.cells (Array.replicate 120 (.int .i64 0)) 64)) g 40 3 (cellF (List.replicate 40 C3.zero)):=by
  subst h
  refine ⟨_,_,heap_alloc_new w _,by simp,fun i j hi hj=>?_⟩
  rw [cellF_zero,Array.getElem?_replicate,if_pos (by omega)]
set_option maxRecDepth 100000 in
set_option maxHeartbeats 1000000 in
theorem newChan_any (cap:Int) (w:World):Calls Try.prog 9 #[.int .i64 cap] w fun r w' =>
    (∃ v1 v2,r=.returned (.agg #[.int .i64 (newChan cap).cap,.int .i64 (newChan cap).sent,.int .i64 (newChan cap).got,.int .i64 (newChan cap).fin,v1,v2])∧NewC w' w.heap.size v1 (newChan cap).cells∧NewI w' w.heap.size v2 (newChan cap).words∧v2.ownBlock=none)∧Below w.heap.size w w':=by
  by_cases h:inB cap 0 4=true
  · have e:newChan cap=⟨cap,0,0,cap,List.replicate 40 C3.zero,[]⟩:=by simp [newChan,h]
    rw [e]
    have hz:=zeroRow
    have HZ:Hid (∀ (W:World) (g lo n:Nat),g=W.heap.size→lo≤W.heap.size→n=40→NewC (W.alloc (.cells (Array.replicate 120 (.int .i64 0)) 64)) lo (.slice (some ⟨g,0,none⟩) n n) (List.replicate 40 C3.zero)):=fun W g lo n hg h hn=>by
      subst hn
      exact .inr ⟨g,40,by simp,by omega,by simpa using lie_cells W g hg⟩
    generalize Array.replicate 120 (Value.int .i64 0)=mz at hz HZ
    go_enter Try.func9,Try.ntmps9
    go_wp2_with (first|(go_at_call 42;refine (inRange_any _ _ _).mono ?_;rintro _ _ ⟨rfl,rfl⟩)|(go_at_call 43;refine (cutC_any 40 (by omega) _ _).mono ?_;rintro _ _ ⟨rfl,rfl⟩))
    refine bodyPost_ret (v:=.agg #[.int .i64 cap,.int .i64 0,.int .i64 0,.int .i64 cap,.slice (some ⟨w.heap.size+1,0,none⟩) 40 40,.slice none 0 0]) (by simp [results,Try.results9,go_sem, *]) rfl ⟨⟨_,_,rfl,HZ.out _ _ _ _ (by simp) (by simp) rfl,.inl ⟨rfl,rfl⟩,rfl⟩,?_⟩
    (repeat (with_reducible first|assumption|exact bR|refine bA ?_|refine bD ?_|((first|refine bS ?_ ?_|refine bBx ?_ ?_);rotate_left;focus (try simp) <;> (try omega))))
  · have e:newChan cap=Ch.zero:=by simp [newChan,h]
    rw [e]
    go_enter Try.func9,Try.ntmps9
    go_wp2_with (go_at_call 42;refine (inRange_any _ _ _).mono ?_;rintro _ _ ⟨rfl,rfl⟩)
    refine bodyPost_ret (v:=.agg #[.int .i64 0,.int .i64 0,.int .i64 0,.int .i64 0,.slice none 0 0,.slice none 0 0]) (by simp [results,Try.results9,go_sem, *]) rfl ⟨⟨_,_,rfl,.inl ⟨rfl,rfl⟩,.inl ⟨rfl,rfl⟩,rfl⟩,?_⟩
    (repeat (with_reducible first|assumption|exact bR|refine bA ?_|refine bD ?_|((first|refine bS ?_ ?_|refine bBx ?_ ?_);rotate_left;focus (try simp) <;> (try omega))))
end Go.Proofs.Ytikhaaccgoiaeaa
set_option linter.unusedSimpArgs false
set_option linter.unusedVariables false
namespace Go.Proofs.Ytikhaaccgoiaeaa
open Go.RowKit
set_option maxHeartbeats 400000 in
theorem isLive_any (n:Int) (w:World):Calls Try.prog 54 #[.int .i64 n] w fun e w'=>e=.returned (.bool (liveB n))∧w=w':=by
  by_cases h:2≤n∧n≤4
  · have hn:n=2∨n=3∨n=4:=by omega
    clear h
    rcases hn with rfl|rfl|rfl
    all_goals
      go_enter Try.func54,Try.ntmps54
      go_wp2
      go_ret
      exact ⟨rfl,rfl⟩
  · have h2:(n == 2)=false:=by simp;omega
    have h3:(n == 3)=false:=by simp;omega
    have h4:(n == 4)=false:=by simp;omega
    have h5:false=liveB n:=by unfold liveB;rw [inB_no (by omega)]
    have H:=Lib.hid h5
    clear h h5
    go_enter Try.func54,Try.ntmps54
    go_wp2
    go_ret
    exact ⟨ret_bool H.out,rfl⟩
set_option maxHeartbeats 400000 in
theorem liveIn_any (cs:List C3) (a:Option Addr) (cap:Nat) (w:World) (h:Seg w w.heap.size a cs.length 3 (cellF cs)) (hm:cs.length≤maxLen) :
    Calls Try.prog 21 #[.slice a cs.length cap] w fun r w'=>r=.returned (.int .i64 (liveF cs))∧Below w.heap.size w w':=by
  unfold maxLen at hm
  by_cases hlen:40<cs.length
  · go_enter Try.func21,Try.ntmps21
    go_wp2
    go_ret
    exact ⟨ret_i64 (liveF_long hlen),Below.refl _ _⟩
  · have hd:decide (40<(cs.length:Int))=false:=by simp;omega
    have hle:cs.length≤40:=by omega
    clear hlen
    have HS:=Lib.hid h
    clear h
    go_enter Try.func21,Try.ntmps21
    go_wp2
    go_loopw [3,11] (fun n i wr=>∃ k:Nat,k≤cs.length∧i=.int .i64 k∧n=.int .i64 (liveN (cs.take k))∧Hid ((cs.take k).all okC=true)∧Below w.heap.size w wr) (fun _ i _=>cs.length - (intOf i).toNat)
    case atStart=>exact ⟨0,Nat.zero_le _,rfl,rfl,rfl,Below.refl _ _⟩
    case round =>
      obtain ⟨k,hk,rfl,rfl,hall,hB⟩:=hrel
      have hs:=hB.size
      have hbd:=liveN_bd cs k
      by_cases hlt:k<cs.length
      · obtain h0|⟨b,o,rfl,hb,hc⟩:=HS.out
        · omega
        have c0:=(hB.cell (p:=⟨b,o+k*3+0,none⟩) hb).trans (hc k 0 hlt (by omega))
        have c1:=(hB.cell (p:=⟨b,o+k*3+1,none⟩) hb).trans (hc k 1 hlt (by omega))
        have c2:=(hB.cell (p:=⟨b,o+k*3+2,none⟩) hb).trans (hc k 2 hlt (by omega))
        simp only [cellF,C3.val,Nat.add_zero] at c0 c1 c2
        clear hc
        generalize hcg:cs.getD k ⟨0,0,0⟩=c at c0 c1 c2
        have HC:=Lib.hid hcg
        clear hcg
        go_wp2_with (first|(go_at_call 53;refine (cellOk_any _ _ _ _).mono ?_;rintro _ w1 ⟨rfl,hbw1⟩;have hBw1:Below w.heap.size w w1:=bT (by (repeat (with_reducible first|assumption|exact bR|refine bA ?_|refine bD ?_|((first|refine bS ?_ ?_|refine bBx ?_ ?_);rotate_left;focus (try simp) <;> (try omega))))) hbw1;have hsw1:=hbw1.size;(try (simp at hsw1));have:=fun o=>hbw1.cell (p:=⟨wr.heap.size,o,none⟩) (by ((try simp);(try omega)));have:=fun o=>hbw1.frozen (p:=⟨wr.heap.size,o,none⟩) (by ((try simp);(try omega)));have:wr.heap.size<w1.heap.size:=(by omega);have:wr.heap.size≤w1.heap.size:=(by omega);have:wr.heap.size≤w1.heap.size+1:=(by omega))|(go_at_call 54;refine (isLive_any _ _).mono ?_;rintro _ _ ⟨rfl,rfl⟩))
        · go_ret
          exact ⟨ret_i64 (liveF_bad hlt (by rw [HC.out];exact not_true ‹_›)),by (repeat (with_reducible first|assumption|exact bR|refine bA ?_|refine bD ?_|((first|refine bS ?_ ?_|refine bBx ?_ ?_);rotate_left;focus (try simp) <;> (try omega))))⟩
        · go_roundw
          case rel=>exact ⟨k+1,by omega,by go_num,by rw [live_snoc1 hlt (by rw [HC.out];assumption)],all_snoc hlt hall.out (by rw [HC.out];exact not_false ‹_›),by (repeat (with_reducible first|assumption|exact bR|refine bA ?_|refine bD ?_|((first|refine bS ?_ ?_|refine bBx ?_ ?_);rotate_left;focus (try simp) <;> (try omega))))⟩
          case measure=>simp [intOf];omega
        · go_roundw
          case rel=>exact ⟨k+1,by omega,by go_num,by rw [live_snoc0 hlt (by rw [HC.out];assumption)],all_snoc hlt hall.out (by rw [HC.out];exact not_false ‹_›),by (repeat (with_reducible first|assumption|exact bR|refine bA ?_|refine bD ?_|((first|refine bS ?_ ?_|refine bBx ?_ ?_);rotate_left;focus (try simp) <;> (try omega))))⟩
          case measure=>simp [intOf];omega
      · have:k=cs.length:=by omega
        subst this
        go_wp2
        go_ret
        exact ⟨ret_i64 (liveF_end hle hall.out),hB⟩
end Go.Proofs.Ytikhaaccgoiaeaa
