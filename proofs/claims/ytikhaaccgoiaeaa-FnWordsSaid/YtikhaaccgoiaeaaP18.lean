/-
  Right worlds stay right, on plain numbers and lists; no condition.
  Lists that are made with a number of zeros; at most 1048576 elements.
  The reference model's NewChan; no condition.
  The draws of the laws: what each hands back is some value of its range, and only the cursor turns; the drawn bytes are at most 4096.
-/
import Derived.Test.YtikhaaccgoiaeaaP17
import Derived.Test.YtikhaaccgoiaeaaP01
import Derived.Test.YtikhaaccgoiaeaaP02
import Derived.IntWalk
set_option linter.unusedSimpArgs false
set_option linter.unusedVariables false
namespace Go.Proofs.Ytikhaaccgoiaeaa
/-- A right world, said at length. -/
structure RightW (x:Wo):Prop where
  ch:chanOk x.ch=true
  h1:1≤x.hands.length
  h6:x.hands.length≤6
  d:x.deals.length≤1000
  n0:0≤x.now
  n1:x.now≤20000
  hs:∀ h ∈ x.hands,handOk h=true∧h.beg≤x.now
  ds:∀ d ∈ x.deals,dealB x.hands.length x.now d=true
theorem rightW_iff (x:Wo):worldOk x=true↔RightW x:=by
  constructor
  · intro h
    simp only [worldOk,worldHead,inB,Bool.and_eq_true,decide_eq_true_eq,List.all_eq_true,handB11] at h
    obtain ⟨⟨a,b,c,d,e,f⟩,g,i⟩:=h
    exact ⟨a,b,c,d,e,f,g,i⟩
  · intro h
    simp only [worldOk,worldHead,inB,Bool.and_eq_true,decide_eq_true_eq,List.all_eq_true,handB11]
    exact ⟨⟨h.ch,h.h1,h.h6,h.d,h.n0,h.n1⟩,h.hs,h.ds⟩
theorem hand_parts {h:Ha} (e:handOk h=true):0≤h.beg∧h.beg≤20000∧inB h.out 0 999=true:=by
  simp only [handOk,handC,Bool.and_eq_true,inB_iff] at e
  obtain ⟨_,_,_,_,_,⟨b0,b1⟩,_,o⟩:=e
  exact ⟨b0,b1,by simpa [inB] using o⟩
theorem chan_parts {c:Ch} (e:chanOk c=true):c.cells.length=40∧c.words.length≤80:=by
  simp only [chanOk,chanHead,Bool.and_eq_true,decide_eq_true_eq] at e
  exact ⟨e.1.2.2.2.2.1,e.1.2.2.2.2.2⟩
theorem deal_later {n:Nat} {a b:Int} {d:De} (h:dealB n a d=true) (hab:a≤b):dealB n b d=true:=by
  simp only [dealB,Bool.and_eq_true,inB_iff] at h ⊢
  obtain ⟨h1,h2,h3,h4,h5⟩:=h
  exact ⟨h1,h2,⟨h3.1,by omega⟩,⟨h4.1,by omega⟩,h5⟩
theorem task_lt {x:Wo} {who:Int} (h:taskOk x who=true):0≤who∧who.toNat<x.hands.length:=by
  simp [taskOk,taskB,inB] at h
  omega
theorem hand_mem {x:Wo} {who:Int} (h:taskOk x who=true):handAt x who ∈ x.hands:=by
  have:=(task_lt h).2
  unfold handAt
  rw [List.getD_eq_getElem?_getD,List.getElem?_eq_getElem this]
  exact List.getElem_mem this
theorem set_mem {l:List Ha} {i:Nat} {h y:Ha} (m:y ∈ l.set i h):y ∈ l∨y=h:=List.mem_or_eq_of_mem_set m
theorem hand_set {x:Wo} {who:Int} (h:taskOk x who=true) (y:Ha):(x.hands.set who.toNat y).getD who.toNat Ha.zero=y:=by
  have:=(task_lt h).2
  simp [List.getD,this]
/-- A hand and the channel are turned, and it is one later. -/
theorem right_next {x:Wo} {who:Int} {c:Ch} {h:Ha} {ds:List De} (hx:RightW x) (hc:chanOk c=true) (hh:handOk h=true) (hb:h.beg≤x.now+1) (hn:x.now≠20000) (hl:ds.length≤1000) (hd:∀ d ∈ ds,dealB x.hands.length (x.now+1) d=true) :
    RightW ⟨c,x.hands.set who.toNat h,ds,x.now+1⟩:=by
  have:=hx.n0;have:=hx.n1
  refine ⟨hc,by simpa using hx.h1,by simpa using hx.h6,hl,by simp only;omega,by simp only;omega,?_,by simpa using hd⟩
  intro y m
  rcases set_mem m with m|rfl
  · have:=hx.hs y m
    exact ⟨this.1,by simp only;omega⟩
  · exact ⟨hh,hb⟩
theorem deals_later {x:Wo} (hx:RightW x):∀ d ∈ x.deals,dealB x.hands.length (x.now+1) d=true:=fun d m=>deal_later (hx.ds d m) (by omega)
/-- What a step of one who has a task makes. -/
theorem step_right {x:Wo} {who:Int} (hx:RightW x) (ht:taskOk x who=true) (hs:(step11 x who).2=true) :
    RightW (step11 x who).1∧(step11 x who).1.hands.length=x.hands.length∧handAt (step11 x who).1 who=(stepC x.ch (handAt x who)).2.1∧(step11 x who).1.ch=(stepC x.ch (handAt x who)).1∧(stepC x.ch (handAt x who)).2.2=true:=by
  have G:=good_step x.ch (handAt x who)
  have hm:=hx.hs _ (hand_mem ht)
  have hp:=hand_parts hm.1
  generalize hS:stepC x.ch (handAt x who)=S at G ⊢
  have e:step11 x who=stepW x who S:=by rw [step11,hS]
  rw [e] at hs ⊢
  unfold stepW at hs ⊢
  split at hs
  · cases hs
  · rename_i h0
    rw [if_neg h0]
    simp at h0
    obtain ⟨h2,hn⟩:=h0
    obtain ⟨g1,g2,g3,_⟩:=G h2
    have hb:S.2.1.beg≤x.now+1:=by rcases g3 with g3|g3 <;> omega
    split at hs
    · rename_i h3
      rw [if_pos h3]
      exact ⟨right_next hx g1 g2 hb hn hx.d (deals_later hx),by simp [setHand],hand_set ht _,rfl,h2⟩
    · rename_i h3
      rw [if_neg h3]
      split at hs
      · cases hs
      · rename_i h4
        rw [if_neg h4]
        simp at h4
        refine ⟨right_next hx g1 g2 hb hn (by simp;omega) ?_,by simp [setHand],hand_set ht _,rfl,h2⟩
        intro d m
        rcases List.mem_append.1 m with m|m
        · exact deals_later hx d m
        · simp at m
          subst m
          have hq:=hand_parts g2
          have:=hx.n0
          simp only [dealB,Bool.and_eq_true,inB_iff]
          refine ⟨ht,h4.2,⟨hp.1,by omega⟩,⟨by omega,by omega⟩,by simpa [inB] using hq.2.2⟩
theorem alone_rest {x:Wo} {who:Int} (h:(handAt x who).pos=0) (n:Nat):aloneN n x who=(x,0):=by
  cases n with
  | zero=>rfl
  | succ n=>simp [aloneN,h]
theorem alone_right (n:Nat):∀ (x:Wo) (who:Int),RightW x→taskOk x who=true →
    RightW (aloneN n x who).1∧(aloneN n x who).1.hands.length=x.hands.length∧(aloneN n x who).1.ch.words.length≤x.ch.words.length+1∧(Ph (handAt x who)→(aloneN n x who).1.ch.words.length=x.ch.words.length):=by
  induction n with
  | zero=>exact fun x who hx ht=>⟨hx,rfl,by simp [aloneN],fun _=>rfl⟩
  | succ n ih =>
    intro x who hx ht
    unfold aloneN
    split
    · exact ⟨hx,rfl,by simp,fun _=>rfl⟩
    · split
      · rename_i h1
        obtain ⟨r1,r2,r3,r4,r5⟩:=step_right hx ht h1
        have ht2:taskOk (step11 x who).1 who=true:=by unfold taskOk at ht ⊢;rw [r2];exact ht
        obtain ⟨i1,i2,i3,i4⟩:=ih _ who r1 ht2
        obtain ⟨_,_,_,g⟩:=good_step x.ch (handAt x who) r5
        rw [← r4,← r3] at g
        refine ⟨i1,i2.trans r2,?_,fun H=>?_⟩
        · rcases g with ⟨g1,_⟩|⟨g1,_,g3⟩
          · simp only;omega
          · have:=i4 g3
            simp only;omega
        · rcases g with ⟨g1,g2⟩|⟨_,g2,_⟩
          · rcases g2 H with g2|g2
            · have:=i4 g2
              simp only;omega
            · simp only
              rw [alone_rest g2]
              exact g1
          · exact absurd H g2
      · exact ⟨hx,rfl,by simp,fun _=>rfl⟩
theorem called_right {h:Ha} {k e b:Int} (hh:handOk h=true) (h0:(called h k e).2=0):handOk { (called h k e).1 with beg:=b }=true↔(0≤b∧b≤20000):=by
  unfold called at h0 ⊢
  rw [if_pos hh] at h0 ⊢
  split at h0
  · rename_i hp
    rw [if_pos hp]
    split at h0
    · rename_i hk
      rw [if_pos hk]
      have hk2:k=1∨k=2:=by simp [callOk] at hk;omega
      rcases hk2 with rfl|rfl <;> simp [begun,handOk,handA,handB,handC,hk,inB] <;> omega
    · simp at h0
  · simp at h0
theorem asked_right {x:Wo} {who k e:Int} (hx:RightW x) (ht:taskOk x who=true):RightW (asked x who k e).1∧(asked x who k e).1.hands.length=x.hands.length∧(asked x who k e).1.ch=x.ch:=by
  have hm:=hx.hs _ (hand_mem ht)
  have:=hx.n0;have:=hx.n1
  unfold asked
  rw [if_pos (by simp [(rightW_iff x).2 hx,ht])]
  split
  · exact ⟨hx,rfl,rfl⟩
  · rename_i h0
    simp at h0
    split
    · exact ⟨hx,rfl,rfl⟩
    · rename_i hn
      simp at hn
      exact ⟨right_next hx hx.ch ((called_right hm.1 h0).2 ⟨by omega,by omega⟩) (by simp) hn hx.d (deals_later hx),by simp [setHand],rfl⟩
theorem tell_ok {c:Ch} (v:Int) (h:chanOk c=true):chanOk (tellC c v 2)=true:=by
  unfold tellC
  split
  · simp only [chanOk,chanHead,Bool.and_eq_true,List.all_eq_true,List.length_set] at h ⊢
    refine ⟨h.1,h.2.1,fun y m=>?_⟩
    rcases List.mem_or_eq_of_mem_set m with m|rfl
    · exact h.2.2 y m
    · rfl
  · exact h
theorem stopped_right {x:Wo} {who:Int} (hx:RightW x) (ht:taskOk x who=true):RightW (stopped x who).1∧(stopped x who).1.hands.length=x.hands.length∧(stopped x who).1.ch.words.length=x.ch.words.length:=by
  unfold stopped
  rw [if_pos (by simp [(rightW_iff x).2 hx,ht])]
  split
  · exact ⟨hx,rfl,rfl⟩
  · exact ⟨⟨tell_ok _ hx.ch,hx.h1,hx.h6,hx.d,hx.n0,hx.n1,hx.hs,hx.ds⟩,rfl,tell_len _ _ _⟩
theorem new_right {cap tasks:Int} (h0:0≤cap) (h1:cap≤4) (h2:1≤tasks) (h3:tasks≤6):(newWorld cap tasks).2=true∧RightW (newWorld cap tasks).1∧(newWorld cap tasks).1.hands.length=tasks.toNat∧(newWorld cap tasks).1.ch.words.length=0:=by
  have e1:inB cap 0 4=true:=inB_yes h0 h1
  have e:newWorld cap tasks=(⟨newChan cap,List.replicate tasks.toNat (resting 0 0),[],0⟩,true):=by simp [newWorld,e1,inB_yes h2 h3]
  have ec:newChan cap=⟨cap,0,0,cap,List.replicate 40 C3.zero,[]⟩:=by simp [newChan,e1]
  rw [e,ec]
  refine ⟨rfl,⟨?_,by simp;omega,by simp;omega,by simp,by simp,by simp,?_,by simp⟩,by simp,rfl⟩
  · simp [chanOk,chanHead,inB,cellFits,okC,cellB,C3.zero]
    omega
  · intro h m
    obtain ⟨_,rfl⟩:=List.mem_replicate.1 m
    exact ⟨by decide,Int.le_refl 0⟩
end Go.Proofs.Ytikhaaccgoiaeaa
set_option linter.unusedSimpArgs false
set_option linter.unusedVariables false
namespace Go.Proofs.Ytikhaaccgoiaeaa
open Go.RowKit
theorem infoCell:(Try.prog.info? 62).map (fun i=>(i.zero,i.size,i.bytes))=some (some (.agg #[.int .i64 0,.int .i64 0,.int .i64 0]),3,24):=by kernel_rfl
theorem mkCells (n:Nat) (h:n≤1048576) (W:World):(Instr.makeSlice 24 (.int .i64 n) (.int .i64 n)).run Try.prog W=.ok (.slice (some ⟨W.heap.size,0,none⟩) n n) (W.alloc (.cells (madeCells #[.int .i64 0,.int .i64 0,.int .i64 0] (n*3)) 62)):=by
  obtain ⟨i,hi,hz,hs,hb⟩:=info_parts infoCell
  have:=run_make (P:=Try.prog) W 24 62 i _ Try.underlying24 hi hz .i64 .i64 n n (by omega) (by omega) (by rw [hb];omega) (by omega)
  rw [this,hs]
  simp [Value.cells]
theorem mkInts (n:Nat) (h:n≤1048576) (W:World):(Instr.makeSlice 25 (.int .i64 n) (.int .i64 n)).run Try.prog W=.ok (.slice (some ⟨W.heap.size,0,none⟩) n n) (W.alloc (.cells (madeCells #[.int .i64 0] (n*1)) 2)):=by
  obtain ⟨i,hi,hz,hs,hb⟩:=info_parts infoInt
  have:=run_make (P:=Try.prog) W 25 2 i _ Try.underlying25 hi hz .i64 .i64 n n (by omega) (by omega) (by rw [hb];omega) (by omega)
  rw [this,hs]
  simp [Value.cells]
end Go.Proofs.Ytikhaaccgoiaeaa
set_option linter.unusedSimpArgs false
set_option linter.unusedVariables false
namespace Go.Proofs.Ytikhaaccgoiaeaa
open Go.RowKit
theorem own_zeros (w:World) (lo:Nat) (h:lo≤w.heap.size):OCells (w.alloc (.cells (madeCells #[.int .i64 0,.int .i64 0,.int .i64 0] (40*3)) 62)) lo (.slice (some ⟨w.heap.size,0,none⟩) 40 40) (List.replicate 40 C3.zero):=by
  refine ⟨by rw [flatC_len],.inr ⟨w.heap.size,40,_,rfl,h,heap_alloc_new w _,Nat.le_refl _,by decide,size_madeCells _ _,?_⟩⟩
  kernel_rfl
set_option maxRecDepth 100000 in
set_option maxHeartbeats 1000000 in
theorem sNewChan_any (cap:Int) (w:World):Calls Try.prog 15 #[.int .i64 cap] w fun r w' =>
    (∃ v1 v2,r=.returned (.agg #[.int .i64 (newChan cap).cap,.int .i64 (newChan cap).sent,.int .i64 (newChan cap).got,.int .i64 (newChan cap).fin,v1,v2])∧OCells w' w.heap.size v1 (newChan cap).cells∧OInts w' w.heap.size v2 (newChan cap).words)∧Below w.heap.size w w':=by
  by_cases h:inB cap 0 4=true
  · have e:newChan cap=⟨cap,0,0,cap,List.replicate 40 C3.zero,[]⟩:=by simp [newChan,h]
    rw [e]
    have hmk:∀ W:World,(Instr.makeSlice 24 (.int .i64 40) (.int .i64 40)).run Try.prog W=.ok (.slice (some ⟨W.heap.size,0,none⟩) 40 40) (W.alloc (.cells (madeCells #[.int .i64 0,.int .i64 0,.int .i64 0] (40*3)) 62)):=mkCells 40 (by omega)
    have HZ:Hid (∀ (W:World) (lo n:Nat),n=W.heap.size→lo≤W.heap.size→OCells (W.alloc (.cells (madeCells #[.int .i64 0,.int .i64 0,.int .i64 0] (40*3)) 62)) lo (.slice (some ⟨n,0,none⟩) 40 40) (List.replicate 40 C3.zero)):=fun W lo n hn h=>hn ▸ own_zeros W lo h
    generalize madeCells #[.int .i64 0,.int .i64 0,.int .i64 0] (40*3)=mz at hmk HZ
    go_enter Try.func15,Try.ntmps15
    go_wp2_with (go_at_call 47;refine (l1In_any _ _ _ _).mono ?_;rintro _ _ ⟨rfl,rfl⟩)
    refine bodyPost_ret (v:=.agg #[.int .i64 cap,.int .i64 0,.int .i64 0,.int .i64 cap,.slice (some ⟨w.heap.size+1,0,none⟩) 40 40,.slice none 0 0]) (by simp [results,Try.results15,go_sem, *]) rfl ⟨⟨_,_,rfl,HZ.out _ _ _ (by simp) (by simp),World.ownsRow_nil _ _ _ _⟩,?_⟩
    (repeat (with_reducible first|assumption|exact bR|refine bA ?_|refine bD ?_|((first|refine bS ?_ ?_|refine bBx ?_ ?_);rotate_left;focus (try simp) <;> (try omega))))
  · have e:newChan cap=Ch.zero:=by simp [newChan,h]
    rw [e]
    go_enter Try.func15,Try.ntmps15
    go_wp2_with (go_at_call 47;refine (l1In_any _ _ _ _).mono ?_;rintro _ _ ⟨rfl,rfl⟩)
    refine bodyPost_ret (v:=.agg #[.int .i64 0,.int .i64 0,.int .i64 0,.int .i64 0,.slice none 0 0,.slice none 0 0]) (by simp [results,Try.results15,go_sem, *]) rfl ⟨⟨_,_,rfl,World.ownsRow_nil _ _ _ _,World.ownsRow_nil _ _ _ _⟩,?_⟩
    (repeat (with_reducible first|assumption|exact bR|refine bA ?_|refine bD ?_|((first|refine bS ?_ ?_|refine bBx ?_ ?_);rotate_left;focus (try simp) <;> (try omega))))
end Go.Proofs.Ytikhaaccgoiaeaa
set_option linter.unusedSimpArgs false
set_option linter.unusedVariables false
namespace Go.Proofs.Ytikhaaccgoiaeaa
open Go.RowKit
theorem heapDN {w:World} {g n:Nat} {x:Option Obj} (h:w.heap[g]?=x):(w.drewN n).heap[g]?=x:=h
theorem bits_and_bd (X m:Int) (h0:0≤m) (h1:m<2147483648):0≤bits .and .i64 X m∧bits .and .i64 X m≤m:=by
  obtain ⟨k,rfl⟩:=Int.eq_ofNat_of_zero_le h0
  have hk:(BitVec.ofInt 64 (k:Int)).toNat=k:=by
    rw [BitVec.toNat_ofInt];simp;omega
  have hle:(BitVec.ofInt 64 X &&& BitVec.ofInt 64 (k:Int)).toNat≤k:=by
    rw [BitVec.toNat_and,hk];exact Nat.and_le_right
  have e:bits .and .i64 X (k:Int)=((BitVec.ofInt 64 X &&& BitVec.ofInt 64 (k:Int)).toNat:Int):=by
    show IntKind.i64.wrap ((BitVec.ofInt 64 X &&& BitVec.ofInt 64 (k:Int)).toNat:Int)=_
    refine IntWalk.i64_in _ ?_
    omega
  rw [e];omega
/-- The cursor in block g: bytes that lie below block B, and how far it is. -/
def DS (w:World) (B g:Nat):Prop:=∃ (a:Option Addr) (n cap i:Nat) (h:Int) (bs:Nat→Int),
  w.heap[g]?=some (.cells #[.slice a n cap,.int .i64 i,.int .i64 h] 92 (0,0))∧i≤n∧n≤4096∧B≤g∧(∀ j,0≤bs j∧bs j≤255)∧Seg w B a n 1 (fun j _=>.int .u8 (bs j))
/-- The same, of these bytes. -/
def DSx (w:World) (B g:Nat) (a:Option Addr) (n cap:Nat):Prop:=∃ (i:Nat) (h:Int) (bs:Nat→Int),
  w.heap[g]?=some (.cells #[.slice a n cap,.int .i64 i,.int .i64 h] 92 (0,0))∧i≤n∧n≤4096∧B≤g∧(∀ j,0≤bs j∧bs j≤255)∧Seg w B a n 1 (fun j _=>.int .u8 (bs j))
theorem DSx.ds {w:World} {B g n cap:Nat} {a:Option Addr} (h:DSx w B g a n cap):DS w B g:=⟨a,n,cap,h⟩
theorem DS.dsx {w:World} {B g:Nat} (h:DS w B g):∃ a n cap,DSx w B g a n cap:=h
theorem DSx.cell0 {w:World} {B g n cap:Nat} {a:Option Addr} (h:DSx w B g a n cap):w.cell? ⟨g,0,none⟩=some (.slice a n cap)∧n≤4096:=by
  obtain ⟨i,h,bs,hg,_,h2,_⟩:=h
  exact ⟨cell_of_row w g 0 _ _ _ hg,h2⟩
theorem DS.lt {w:World} {B g:Nat} (h:DS w B g):g<w.heap.size:=by
  obtain ⟨a,n,cap,i,h,bs,hg,_⟩:=h
  exact (Array.getElem?_eq_some_iff.1 hg).1
theorem DS.le {w:World} {B g:Nat} (h:DS w B g):B≤g:=by
  obtain ⟨a,n,cap,i,h,bs,hg,_,_,hB,_⟩:=h
  exact hB
theorem DS.keep {w w':World} {B g:Nat} (h:DS w B g) (e:w'.heap[g]?=w.heap[g]?) (k:Below B w w'):DS w' B g:=by
  obtain ⟨a,n,cap,i,h,bs,hg,h1,h2,h3,h4,h5⟩:=h
  exact ⟨a,n,cap,i,h,bs,e.trans hg,h1,h2,h3,h4,h5.below k⟩
theorem DS.alloc {w:World} {B g:Nat} {o:Obj} (h:DS w B g):DS (w.alloc o) B g:=h.keep (Below.heap_alloc w o g h.lt) ((Below.refl _ _).alloc (by have:=h.lt;have:=h.le;omega) o)
theorem DS.drew {w:World} {B g:Nat} (h:DS w B g):DS w.drew B g:=h
theorem DS.setCell {w:World} {B g:Nat} {p:Addr} {u:Value} (h:DS w B g) (hp:B≤p.block) (hn:g≠p.block):DS (w.setCell p u) B g:=h.keep (Below.heap_setCell w p u g hn) ((Below.refl _ _).setCell hp u)
/-- A callee that only makes memory leaves the cursor. -/
theorem DS.below {w w':World} {B g:Nat} (h:DS w B g) (k:Below w.heap.size w w'):DS w' B g:=h.keep (k.block g h.lt) (k.mono (by have:=h.lt;have:=h.le;omega))
theorem heap_setCell_at {w:World} {g:Nat} {cs:Array Value} {t:TypeId} (h:w.heap[g]?=some (.cells cs t (0,0))) (j:Nat) (u:Value):(w.setCell ⟨g,j,none⟩ u).heap[g]?=some (.cells (cs.setIfInBounds j u) t (0,0)):=by
  simp [World.setCell,Array.getElem?_modify,h]
theorem heap_frozen {w:World} {g:Nat} {cs:Array Value} {t:TypeId} (h:w.heap[g]?=some (.cells cs t (0,0))) (o:Nat):w.frozen? ⟨g,o,none⟩=false:=by
  simp [World.frozen?,h]
/-- A number of the range 0 .. m. -/
def RangeI (m:Int) (r:Ending):Prop:=∃ x:Int,r=.returned (.int .i64 x)∧0≤x∧x≤m
set_option maxHeartbeats 400000 in
theorem l1Byte_core (B g n cap i:Nat) (a:Option Addr) (h:Int) (bs:Nat→Int) (w:World)
    (hg:w.heap[g]?=some (.cells #[.slice a n cap,.int .i64 i,.int .i64 h] 92 (0,0))) (hi:i≤n) (hn:n≤4096) (hB:B≤g) (hbs:∀ j,0≤bs j∧bs j≤255) (HS:Hid (Seg w B a n 1 (fun j _=>.int .u8 (bs j)))) :
    Calls Try.prog 77 #[.pointer (some ⟨g,0,none⟩)] w fun r w'=>RangeI 255 r∧DSx w' B g a n cap∧Gr g w w':=by
  have c0:=cell_of_row w g 0 _ _ _ hg
  have c1:=cell_of_row w g 1 _ _ _ hg
  have c2:=cell_of_row w g 2 _ _ _ hg
  have f0:=heap_frozen hg
  have hlt:g<w.heap.size:=(Array.getElem?_eq_some_iff.1 hg).1
  simp at c0 c1 c2
  have HG:=Lib.hid hg
  have HB:=Lib.hid hbs
  clear hg hbs
  by_cases hin:i<n
  · obtain h0|⟨b,o,rfl,hb,hc⟩:=HS.out
    · omega
    have cb:=hc i 0 hin (by omega)
    have hbb:=HB.out i
    simp only [Nat.add_zero,Nat.mul_one] at cb
    clear hc
    generalize bs i=y at cb hbb
    obtain ⟨hy0,hy1⟩:=hbb
    have hbg:b≠g:=by omega
    have hgb:¬ g=b:=by omega
    have hi0:(0:Int)≤(i:Int):=by omega
    have hi1:(i:Int)<(n:Int):=by omega
    go_enter Try.func77,Try.ntmps77
    go_wp2
    generalize wrap64 (wrap64 (h*6364136223846793005)+1442695040888963407)=H
    go_quiet (fail)
    go_wp2
    have hx:=bits_and_bd (bits BinOp.xor IntKind.i64 (H / 8589934592) (H / 35184372088832)) 255 (by omega) (by omega)
    generalize bits BinOp.and IntKind.i64 (bits BinOp.xor IntKind.i64 (H / 8589934592) (H / 35184372088832)) 255=x at hx
    obtain ⟨hx0,hx1⟩:=hx
    go_quiet (fail)
    go_wp2
    go_quiet (fail)
    have hz:=bits_and_bd (IntKind.i64.wrap (x+y)) 255 (by omega) (by omega)
    have hz':=bits_and_bd (x+y) 255 (by omega) (by omega)
    go_wp2
    go_ret
    exact ⟨⟨_,rfl,hz'.1,hz'.2⟩,⟨i+1,H,bs,by simpa using heap_setCell_at (heapDN (heap_setCell_at HG.out 2 _)) 1 _,by omega,hn,hB,HB.out,HS.out.below (by repeat (first|exact Below.refl _ _|refine Below.setCell ?_ hB _|refine bDN ?_ _))⟩,by repeat (first|exact gR _ _|refine gS ?_ (.inl rfl)|refine gDN ?_ _)⟩
  · have hin2:¬ (i:Int)<(n:Int):=by omega
    go_enter Try.func77,Try.ntmps77
    go_wp2
    generalize wrap64 (wrap64 (h*6364136223846793005)+1442695040888963407)=H
    go_quiet (fail)
    go_wp2
    have hx:=bits_and_bd (bits BinOp.xor IntKind.i64 (H / 8589934592) (H / 35184372088832)) 255 (by omega) (by omega)
    generalize bits BinOp.and IntKind.i64 (bits BinOp.xor IntKind.i64 (H / 8589934592) (H / 35184372088832)) 255=x at hx
    obtain ⟨hx0,hx1⟩:=hx
    go_quiet (fail)
    go_wp2
    go_ret
    exact ⟨⟨x,rfl,hx0,hx1⟩,⟨i,H,bs,by simpa using heap_setCell_at HG.out 2 _,hi,hn,hB,HB.out,HS.out.below (bDN (bDN ((Below.refl _ _).setCell hB _) _) _)⟩,gDN (gDN (gS (gR _ _) (.inl rfl)) _) _⟩
theorem l1Byte_x (B g n cap:Nat) (a:Option Addr) (w:World) (h:DSx w B g a n cap):Calls Try.prog 77 #[.pointer (some ⟨g,0,none⟩)] w fun r w'=>RangeI 255 r∧DSx w' B g a n cap∧Gr g w w':=by
  obtain ⟨i,h,bs,hg,h1,h2,h3,h4,h5⟩:=h
  exact l1Byte_core B g n cap i a h bs w hg h1 h2 h3 h4 (Lib.hid h5)
theorem l1Byte_any (B g:Nat) (w:World) (h:DS w B g):Calls Try.prog 77 #[.pointer (some ⟨g,0,none⟩)] w fun r w'=>RangeI 255 r∧DS w' B g∧Gr g w w':=by
  obtain ⟨a,n,cap,h⟩:=h.dsx
  exact (l1Byte_x B g n cap a w h).mono fun _ _ ⟨h1,h2,h3⟩=>⟨h1,h2.ds,h3⟩
theorem emod_bd (x:Int) {n:Int} (hn:0<n):0≤x % n∧x % n≤n - 1:=by
  have:=Int.emod_nonneg x (show n≠0 by omega)
  have:=Int.emod_lt_of_pos x hn
  omega
set_option maxHeartbeats 400000 in
/-- A number below n, of one byte or of four. -/
theorem l1Below_x (B g nn cap:Nat) (a:Option Addr) (n:Int) (w:World) (h:DSx w B g a nn cap) (hn:0<n) (hn2:n≤1000000):Calls Try.prog 59 #[.pointer (some ⟨g,0,none⟩),.int .i64 n] w fun r w'=>RangeI (n - 1) r∧DSx w' B g a nn cap∧Gr g w w':=by
  by_cases hs:n≤256
  · go_enter Try.func59,Try.ntmps59
    go_wp2_with fail
    refine (l1Byte_x B g nn cap a _ h).mono ?_
    rintro r w1 ⟨⟨x,rfl,hx0,hx1⟩,hd1,hg1⟩
    go_wp2
    go_ret
    exact ⟨⟨_,rfl,(emod_bd _ hn).1,(emod_bd _ hn).2⟩,hd1,hg1⟩
  · go_enter Try.func59,Try.ntmps59
    go_wp2_with fail
    refine (l1Byte_x B g nn cap a _ h).mono ?_
    rintro r w1 ⟨⟨x,rfl,hx0,hx1⟩,hd1,hg1⟩
    go_wp2_with fail
    refine (l1Byte_x B g nn cap a _ hd1).mono ?_
    rintro r w2 ⟨⟨y,rfl,hy0,hy1⟩,hd2,hg2⟩
    go_wp2_with fail
    refine (l1Byte_x B g nn cap a _ hd2).mono ?_
    rintro r w3 ⟨⟨z,rfl,hz0,hz1⟩,hd3,hg3⟩
    go_wp2_with fail
    refine (l1Byte_x B g nn cap a _ hd3).mono ?_
    rintro r w4 ⟨⟨u,rfl,hu0,hu1⟩,hd4,hg4⟩
    go_wp2
    go_ret
    exact ⟨⟨_,rfl,(emod_bd _ hn).1,(emod_bd _ hn).2⟩,hd4,gT (gT (gT hg1 hg2) hg3) hg4⟩
theorem l1Below_any (B g:Nat) (n:Int) (w:World) (h:DS w B g) (hn:0<n) (hn2:n≤1000000):Calls Try.prog 59 #[.pointer (some ⟨g,0,none⟩),.int .i64 n] w fun r w'=>RangeI (n - 1) r∧DS w' B g∧Gr g w w':=by
  obtain ⟨a,nn,cap,h⟩:=h.dsx
  exact (l1Below_x B g nn cap a n w h hn hn2).mono fun _ _ ⟨h1,h2,h3⟩=>⟨h1,h2.ds,h3⟩
def SomeB (r:Ending):Prop:=∃ b:Bool,r=.returned (.bool b)
def SomeI (r:Ending):Prop:=∃ x:Int,r=.returned (.int .i64 x)
def FromI (lo hi:Int) (r:Ending):Prop:=∃ x:Int,r=.returned (.int .i64 x)∧lo≤x∧x≤hi
set_option maxHeartbeats 400000 in
theorem l1Once_any (B g:Nat) (n:Int) (w:World) (h:DS w B g) (hn:0<n) (hn2:n≤1000000):Calls Try.prog 58 #[.pointer (some ⟨g,0,none⟩),.int .i64 n] w fun r w'=>SomeB r∧DS w' B g∧Gr g w w':=by
  go_enter Try.func58,Try.ntmps58
  go_wp2_with fail
  refine (l1Below_any B g n _ h hn hn2).mono ?_
  rintro r w1 ⟨⟨x,rfl,hx0,hx1⟩,hd1,hg1⟩
  go_wp2
  go_ret
  exact ⟨⟨_,rfl⟩,hd1,hg1⟩
set_option maxHeartbeats 400000 in
theorem l1From_any (B g:Nat) (lo hi:Int) (w:World) (h:DS w B g) (h1:-1000000≤lo) (h2:lo≤hi) (h3:hi - lo<1000000) (h4:hi≤1000000):Calls Try.prog 41 #[.pointer (some ⟨g,0,none⟩),.int .i64 lo,.int .i64 hi] w fun r w'=>FromI lo hi r∧DS w' B g∧Gr g w w':=by
  go_enter Try.func41,Try.ntmps41
  go_wp2_with fail
  refine (l1Below_any B g (hi - lo+1) _ h (by omega) (by omega)).mono ?_
  rintro r w1 ⟨⟨x,rfl,hx0,hx1⟩,hd1,hg1⟩
  go_wp2
  go_ret
  exact ⟨⟨lo+x,rfl,by omega,by omega⟩,hd1,hg1⟩
set_option maxHeartbeats 400000 in
theorem l1Min_any (a b:Int) (w:World):Calls Try.prog 82 #[.int .i64 a,.int .i64 b] w fun r w'=>r=.returned (.int .i64 (if a<b then a else b))∧w=w':=by
  by_cases h:a<b
  · rw [if_pos h]
    go_enter Try.func82,Try.ntmps82
    go_wp2
    go_ret
    exact ⟨rfl,rfl⟩
  · rw [if_neg h]
    go_enter Try.func82,Try.ntmps82
    go_wp2
    go_ret
    exact ⟨rfl,rfl⟩
set_option maxHeartbeats 400000 in
theorem l1Odd_any (B g:Nat) (w:World) (h:DS w B g):Calls Try.prog 86 #[.pointer (some ⟨g,0,none⟩)] w fun r w'=>SomeI r∧DS w' B g∧Gr g w w':=by
  have hlt:=h.lt
  go_enter Try.func86,Try.ntmps86
  go_wp2_with fail
  refine (l1Below_any B g 10 _ h.alloc (by omega) (by omega)).mono ?_
  rintro r w1 ⟨⟨x,rfl,hx0,hx1⟩,hd1,hg1⟩
  obtain ⟨k,rfl⟩:=Int.eq_ofNat_of_zero_le hx0
  have hk:k<10:=by omega
  have hz:w.heap.size≤w1.heap.size:=Nat.le_trans (by simp) hg1.size
  have hc:∃ v:Int,w1.cell? ⟨w.heap.size,k,none⟩=some (.int .i64 v):=by
    rw [gCell hg1 (by simp) (by omega)]
    have:k=0∨k=1∨k=2∨k=3∨k=4∨k=5∨k=6∨k=7∨k=8∨k=9:=by omega
    rcases this with rfl|rfl|rfl|rfl|rfl|rfl|rfl|rfl|rfl|rfl <;> simp
  obtain ⟨v,hv⟩:=hc
  go_wp2
  go_ret
  exact ⟨⟨_,rfl⟩,hd1,gT (gA (gR _ _)) hg1⟩
set_option maxHeartbeats 400000 in
theorem l1Num_any (B g:Nat) (n:Int) (w:World) (h:DS w B g) (hn:0≤n) (hn2:n<1000000):Calls Try.prog 70 #[.pointer (some ⟨g,0,none⟩),.int .i64 n] w fun r w'=>SomeI r∧DS w' B g∧Gr g w w':=by
  have hlt:=h.lt
  go_enter Try.func70,Try.ntmps70
  go_wp2_with fail
  refine (l1Once_any B g 10 _ h (by omega) (by omega)).mono ?_
  rintro r w1 ⟨⟨x,rfl⟩,hd1,hg1⟩
  have hl1:=hd1.lt
  cases x
  · go_wp2_with fail
    refine (l1Once_any B g 2 _ hd1 (by omega) (by omega)).mono ?_
    rintro r w2 ⟨⟨y,rfl⟩,hd2,hg2⟩
    cases y
    · go_wp2_with fail
      refine (l1Below_any B g _ _ hd2 (by omega) (by omega)).mono ?_
      rintro r w3 ⟨⟨z,rfl,hz0,hz1⟩,hd3,hg3⟩
      go_wp2
      go_ret
      exact ⟨⟨_,rfl⟩,hd3,gT (gT hg1 hg2) hg3⟩
    · go_wp2_with fail
      refine (l1Min_any _ _ _).mono ?_
      rintro _ _ ⟨rfl,rfl⟩
      have hm:0≤(if n<4 then n else 4)∧(if n<4 then n else 4)≤4:=by split <;> omega
      generalize (if n<4 then n else 4)=m at hm
      obtain ⟨hm0,hm1⟩:=hm
      go_wp2_with fail
      refine (l1Below_any B g _ _ hd2 (by omega) (by omega)).mono ?_
      rintro r w3 ⟨⟨z,rfl,hz0,hz1⟩,hd3,hg3⟩
      go_wp2
      go_ret
      exact ⟨⟨_,rfl⟩,hd3,gT (gT hg1 hg2) hg3⟩
  · go_wp2_with fail
    refine (l1Odd_any B g _ hd1).mono ?_
    rintro r w2 ⟨⟨y,rfl⟩,hd2,hg2⟩
    have hl2:=hd2.lt
    go_wp2_with fail
    refine (l1Below_any B g 4 _ hd2.alloc (by omega) (by omega)).mono ?_
    rintro r w3 ⟨⟨x,rfl,hx0,hx1⟩,hd3,hg3⟩
    obtain ⟨k,rfl⟩:=Int.eq_ofNat_of_zero_le hx0
    have hk:k<4:=by omega
    have hc:∃ v:Int,w3.cell? ⟨w2.heap.size,k,none⟩=some (.int .i64 v):=by
      rw [gCell hg3 (by simp) (by omega)]
      have:k=0∨k=1∨k=2∨k=3:=by omega
      rcases this with rfl|rfl|rfl|rfl <;> simp
    obtain ⟨v,hv⟩:=hc
    go_wp2
    go_ret
    exact ⟨⟨_,rfl⟩,hd3,gT (gA (gT hg1 hg2)) hg3⟩
end Go.Proofs.Ytikhaaccgoiaeaa
