/-
  Lists that are made with a number of zeros; at most 1048576 elements.
  The reference model's NewChan; no condition.
  The draws of the laws: what each hands back is some value of its range, and only the cursor turns; the drawn bytes are at most 4096.
  A new world of the reference model; no condition.
-/
import Derived.Test.YthdjlpkcmhajlaaGreatP02
import Derived.Test.YthdjlpkcmhajlaaGreatP01
import Derived.IntWalk
import Derived.Test.YthdjlpkcmhajlaaGreatP21
import Derived.Deep.RegionLaw
set_option linter.unusedSimpArgs false
set_option linter.unusedVariables false
namespace Go.Proofs.YthdjlpkcmhajlaaGreat
open Go.RowKit
theorem infoCell:(Tryz.prog.info? 51).map (fun i=>(i.zero,i.size,i.bytes))=some (some (.agg #[.int .i64 0,.int .i64 0,.int .i64 0]),3,24):=by kernel_rfl
theorem mkCells (n:Nat) (h:n≤1048576) (W:World):(Instr.makeSlice 24 (.int .i64 n) (.int .i64 n)).run Tryz.prog W=.ok (.slice (some ⟨W.heap.size,0,none⟩) n n) (W.alloc (.cells (madeCells #[.int .i64 0,.int .i64 0,.int .i64 0] (n*3)) 51)):=by
  obtain ⟨i,hi,hz,hs,hb⟩:=info_parts infoCell
  have:=run_make (P:=Tryz.prog) W 24 51 i _ Tryz.underlying24 hi hz .i64 .i64 n n (by omega) (by omega) (by rw [hb];omega) (by omega)
  rw [this,hs]
  simp [Value.cells]
end Go.Proofs.YthdjlpkcmhajlaaGreat
set_option linter.unusedSimpArgs false
set_option linter.unusedVariables false
namespace Go.Proofs.YthdjlpkcmhajlaaGreat
open Go.RowKit
theorem own_zeros (w:World) (lo:Nat) (h:lo≤w.heap.size):OCells (w.alloc (.cells (madeCells #[.int .i64 0,.int .i64 0,.int .i64 0] (40*3)) 51)) lo (.slice (some ⟨w.heap.size,0,none⟩) 40 40) (List.replicate 40 C3.zero):=by
  refine ⟨by rw [flatC_len],.inr ⟨w.heap.size,40,_,rfl,h,heap_alloc_new w _,Nat.le_refl _,by decide,size_madeCells _ _,?_⟩⟩
  kernel_rfl
set_option maxRecDepth 100000 in
set_option maxHeartbeats 1000000 in
theorem sNewChan_any (cap:Int) (w:World):Calls Tryz.prog 93 #[.int .i64 cap] w fun r w' =>
    (∃ v1 v2,r=.returned (.agg #[.int .i64 (newChan cap).cap,.int .i64 (newChan cap).sent,.int .i64 (newChan cap).got,.int .i64 (newChan cap).fin,v1,v2])∧OCells w' w.heap.size v1 (newChan cap).cells∧OInts w' w.heap.size v2 (newChan cap).words)∧Below w.heap.size w w':=by
  by_cases h:inB cap 0 4=true
  · have e:newChan cap=⟨cap,0,0,cap,List.replicate 40 C3.zero,[]⟩:=by simp [newChan,h]
    rw [e]
    have hmk:∀ W:World,(Instr.makeSlice 24 (.int .i64 40) (.int .i64 40)).run Tryz.prog W=.ok (.slice (some ⟨W.heap.size,0,none⟩) 40 40) (W.alloc (.cells (madeCells #[.int .i64 0,.int .i64 0,.int .i64 0] (40*3)) 51)):=mkCells 40 (by omega)
    have HZ:Hid (∀ (W:World) (lo n:Nat),n=W.heap.size→lo≤W.heap.size→OCells (W.alloc (.cells (madeCells #[.int .i64 0,.int .i64 0,.int .i64 0] (40*3)) 51)) lo (.slice (some ⟨n,0,none⟩) 40 40) (List.replicate 40 C3.zero)):=fun W lo n hn h=>hn ▸ own_zeros W lo h
    generalize madeCells #[.int .i64 0,.int .i64 0,.int .i64 0] (40*3)=mz at hmk HZ
    go_enter Tryz.func93,Tryz.ntmps93
    go_wp2_with (go_at_call 55;refine (l1In_any _ _ _ _).mono ?_;rintro _ _ ⟨rfl,rfl⟩)
    refine bodyPost_ret (v:=.agg #[.int .i64 cap,.int .i64 0,.int .i64 0,.int .i64 cap,.slice (some ⟨w.heap.size+1,0,none⟩) 40 40,.slice none 0 0]) (by simp [results,Tryz.results93,go_sem, *]) rfl ⟨⟨_,_,rfl,HZ.out _ _ _ (by simp) (by simp),World.ownsRow_nil _ _ _ _⟩,?_⟩
    exact zB
  · have e:newChan cap=Ch.zero:=by simp [newChan,h]
    rw [e]
    go_enter Tryz.func93,Tryz.ntmps93
    go_wp2_with (go_at_call 55;refine (l1In_any _ _ _ _).mono ?_;rintro _ _ ⟨rfl,rfl⟩)
    refine bodyPost_ret (v:=.agg #[.int .i64 0,.int .i64 0,.int .i64 0,.int .i64 0,.slice none 0 0,.slice none 0 0]) (by simp [results,Tryz.results93,go_sem, *]) rfl ⟨⟨_,_,rfl,World.ownsRow_nil _ _ _ _,World.ownsRow_nil _ _ _ _⟩,?_⟩
    exact zB
end Go.Proofs.YthdjlpkcmhajlaaGreat
set_option linter.unusedSimpArgs false
set_option linter.unusedVariables false
namespace Go.Proofs.YthdjlpkcmhajlaaGreat
open Go.RowKit
theorem heapDN {w:World} {g n:Nat} {x:Option Obj} (h:w.heap[g]?=x):(w.drewN n).heap[g]?=x:=h
theorem bits_and_bd (X m:Int) (h0:0≤m) (h1:m<2147483648):0≤bits .and .i64 X m∧bits .and .i64 X m≤m:=by
  obtain ⟨k,rfl⟩:=Int.eq_ofNat_of_zero_le h0
  have hk:(BitVec.ofInt 64 (k:Int)).toNat=k:=by
    rw [BitVec.toNat_ofInt];simp;omega
  have hle:(BitVec.ofInt 64 X &&& BitVec.ofInt 64 (k:Int)).toNat≤k:=by
    rw [BitVec.toNat_and,hk];exact Nat.and_le_right
  have e:bits .and .i64 X (k:Int)=((BitVec.ofInt 64 X &&& BitVec.ofInt 64 (k:Int)).toNat:Int):=by
    show IntKind.i64.wrap ((BitVec.ofInt 64 X &&& BitVec.ofInt 64 (k:Int)).toNat:Int)=_
    refine IntWalk.i64_in _ ?_
    omega
  rw [e];omega
/-- The cursor in block g: bytes that lie below block B, and how far it is. -/
def DS (w:World) (B g:Nat):Prop:=∃ (a:Option Addr) (n cap i:Nat) (h:Int) (bs:Nat→Int),
  w.heap[g]?=some (.cells #[.slice a n cap,.int .i64 i,.int .i64 h] 65 (0,0))∧i≤n∧n≤4096∧B≤g∧(∀ j,0≤bs j∧bs j≤255)∧Seg w B a n 1 (fun j _=>.int .u8 (bs j))
/-- The same, of these bytes. -/
def DSx (w:World) (B g:Nat) (a:Option Addr) (n cap:Nat):Prop:=∃ (i:Nat) (h:Int) (bs:Nat→Int),
  w.heap[g]?=some (.cells #[.slice a n cap,.int .i64 i,.int .i64 h] 65 (0,0))∧i≤n∧n≤4096∧B≤g∧(∀ j,0≤bs j∧bs j≤255)∧Seg w B a n 1 (fun j _=>.int .u8 (bs j))
theorem DSx.ds {w:World} {B g n cap:Nat} {a:Option Addr} (h:DSx w B g a n cap):DS w B g:=⟨a,n,cap,h⟩
theorem DS.dsx {w:World} {B g:Nat} (h:DS w B g):∃ a n cap,DSx w B g a n cap:=h
theorem DSx.cell0 {w:World} {B g n cap:Nat} {a:Option Addr} (h:DSx w B g a n cap):w.cell? ⟨g,0,none⟩=some (.slice a n cap)∧n≤4096:=by
  obtain ⟨i,h,bs,hg,_,h2,_⟩:=h
  exact ⟨cell_of_row w g 0 _ _ _ hg,h2⟩
theorem DS.lt {w:World} {B g:Nat} (h:DS w B g):g<w.heap.size:=by
  obtain ⟨a,n,cap,i,h,bs,hg,_⟩:=h
  exact (Array.getElem?_eq_some_iff.1 hg).1
theorem DS.le {w:World} {B g:Nat} (h:DS w B g):B≤g:=by
  obtain ⟨a,n,cap,i,h,bs,hg,_,_,hB,_⟩:=h
  exact hB
theorem DS.keep {w w':World} {B g:Nat} (h:DS w B g) (e:w'.heap[g]?=w.heap[g]?) (k:Below B w w'):DS w' B g:=by
  obtain ⟨a,n,cap,i,h,bs,hg,h1,h2,h3,h4,h5⟩:=h
  exact ⟨a,n,cap,i,h,bs,e.trans hg,h1,h2,h3,h4,h5.below k⟩
theorem DS.alloc {w:World} {B g:Nat} {o:Obj} (h:DS w B g):DS (w.alloc o) B g:=h.keep (Below.heap_alloc w o g h.lt) ((Below.refl _ _).alloc (by have:=h.lt;have:=h.le;omega) o)
theorem DS.drew {w:World} {B g:Nat} (h:DS w B g):DS w.drew B g:=h
theorem DS.setCell {w:World} {B g:Nat} {p:Addr} {u:Value} (h:DS w B g) (hp:B≤p.block) (hn:g≠p.block):DS (w.setCell p u) B g:=h.keep (Below.heap_setCell w p u g hn) ((Below.refl _ _).setCell hp u)
/-- A callee that only makes memory leaves the cursor. -/
theorem DS.below {w w':World} {B g:Nat} (h:DS w B g) (k:Below w.heap.size w w'):DS w' B g:=h.keep (k.block g h.lt) (k.mono (by have:=h.lt;have:=h.le;omega))
theorem heap_setCell_at {w:World} {g:Nat} {cs:Array Value} {t:TypeId} (h:w.heap[g]?=some (.cells cs t (0,0))) (j:Nat) (u:Value):(w.setCell ⟨g,j,none⟩ u).heap[g]?=some (.cells (cs.setIfInBounds j u) t (0,0)):=by
  simp [World.setCell,Array.getElem?_modify,h]
theorem heap_frozen {w:World} {g:Nat} {cs:Array Value} {t:TypeId} (h:w.heap[g]?=some (.cells cs t (0,0))) (o:Nat):w.frozen? ⟨g,o,none⟩=false:=by
  simp [World.frozen?,h]
/-- A number of the range 0 .. m. -/
def RangeI (m:Int) (r:Ending):Prop:=∃ x:Int,r=.returned (.int .i64 x)∧0≤x∧x≤m
set_option maxHeartbeats 400000 in
theorem l1Byte_core (B g n cap i:Nat) (a:Option Addr) (h:Int) (bs:Nat→Int) (w:World)
    (hg:w.heap[g]?=some (.cells #[.slice a n cap,.int .i64 i,.int .i64 h] 65 (0,0))) (hi:i≤n) (hn:n≤4096) (hB:B≤g) (hbs:∀ j,0≤bs j∧bs j≤255) (HS:Hid (Seg w B a n 1 (fun j _=>.int .u8 (bs j)))) :
    Calls Tryz.prog 70 #[.pointer (some ⟨g,0,none⟩)] w fun r w'=>RangeI 255 r∧DSx w' B g a n cap∧Gr g w w':=by
  have c0:=cell_of_row w g 0 _ _ _ hg
  have c1:=cell_of_row w g 1 _ _ _ hg
  have c2:=cell_of_row w g 2 _ _ _ hg
  have f0:=heap_frozen hg
  have hlt:g<w.heap.size:=(Array.getElem?_eq_some_iff.1 hg).1
  simp at c0 c1 c2
  have HG:=Lib.hid hg
  have HB:=Lib.hid hbs
  clear hg hbs
  by_cases hin:i<n
  · obtain h0|⟨b,o,rfl,hb,hc⟩:=HS.out
    · omega
    have cb:=hc i 0 hin (by omega)
    have hbb:=HB.out i
    simp only [Nat.add_zero,Nat.mul_one] at cb
    clear hc
    generalize bs i=y at cb hbb
    obtain ⟨hy0,hy1⟩:=hbb
    have hbg:b≠g:=by omega
    have hgb:¬ g=b:=by omega
    have hi0:(0:Int)≤(i:Int):=by omega
    have hi1:(i:Int)<(n:Int):=by omega
    go_enter Tryz.func70,Tryz.ntmps70
    go_wp2
    generalize wrap64 (wrap64 (h*6364136223846793005)+1442695040888963407)=H
    go_quiet (fail)
    go_wp2
    have hx:=bits_and_bd (bits BinOp.xor IntKind.i64 (H / 8589934592) (H / 35184372088832)) 255 (by omega) (by omega)
    generalize bits BinOp.and IntKind.i64 (bits BinOp.xor IntKind.i64 (H / 8589934592) (H / 35184372088832)) 255=x at hx
    obtain ⟨hx0,hx1⟩:=hx
    go_quiet (fail)
    go_wp2
    go_quiet (fail)
    have hz:=bits_and_bd (IntKind.i64.wrap (x+y)) 255 (by omega) (by omega)
    have hz':=bits_and_bd (x+y) 255 (by omega) (by omega)
    go_wp2
    go_ret
    exact ⟨⟨_,rfl,hz'.1,hz'.2⟩,⟨i+1,H,bs,by simpa using heap_setCell_at (heapDN (heap_setCell_at HG.out 2 _)) 1 _,by omega,hn,hB,HB.out,HS.out.below (by repeat (first|exact Below.refl _ _|refine Below.setCell ?_ hB _|refine bDN ?_ _))⟩,by repeat (first|exact gR _ _|refine gS ?_ (.inl rfl)|refine gDN ?_ _)⟩
  · have hin2:¬ (i:Int)<(n:Int):=by omega
    go_enter Tryz.func70,Tryz.ntmps70
    go_wp2
    generalize wrap64 (wrap64 (h*6364136223846793005)+1442695040888963407)=H
    go_quiet (fail)
    go_wp2
    have hx:=bits_and_bd (bits BinOp.xor IntKind.i64 (H / 8589934592) (H / 35184372088832)) 255 (by omega) (by omega)
    generalize bits BinOp.and IntKind.i64 (bits BinOp.xor IntKind.i64 (H / 8589934592) (H / 35184372088832)) 255=x at hx
    obtain ⟨hx0,hx1⟩:=hx
    go_quiet (fail)
    go_wp2
    go_ret
    exact ⟨⟨x,rfl,hx0,hx1⟩,⟨i,H,bs,by simpa using heap_setCell_at HG.out 2 _,hi,hn,hB,HB.out,HS.out.below (bDN (bDN ((Below.refl _ _).setCell hB _) _) _)⟩,gDN (gDN (gS (gR _ _) (.inl rfl)) _) _⟩
theorem l1Byte_x (B g n cap:Nat) (a:Option Addr) (w:World) (h:DSx w B g a n cap):Calls Tryz.prog 70 #[.pointer (some ⟨g,0,none⟩)] w fun r w'=>RangeI 255 r∧DSx w' B g a n cap∧Gr g w w':=by
  obtain ⟨i,h,bs,hg,h1,h2,h3,h4,h5⟩:=h
  exact l1Byte_core B g n cap i a h bs w hg h1 h2 h3 h4 (Lib.hid h5)
theorem emod_bd (x:Int) {n:Int} (hn:0<n):0≤x % n∧x % n≤n - 1:=by
  have:=Int.emod_nonneg x (show n≠0 by omega)
  have:=Int.emod_lt_of_pos x hn
  omega
set_option maxHeartbeats 400000 in
/-- A number below n, of one byte or of four. -/
theorem l1Below_x (B g nn cap:Nat) (a:Option Addr) (n:Int) (w:World) (h:DSx w B g a nn cap) (hn:0<n) (hn2:n≤1000000):Calls Tryz.prog 36 #[.pointer (some ⟨g,0,none⟩),.int .i64 n] w fun r w'=>RangeI (n - 1) r∧DSx w' B g a nn cap∧Gr g w w':=by
  by_cases hs:n≤256
  · go_enter Tryz.func36,Tryz.ntmps36
    go_wp2_with fail
    refine (l1Byte_x B g nn cap a _ h).mono ?_
    rintro r w1 ⟨⟨x,rfl,hx0,hx1⟩,hd1,hg1⟩
    go_wp2
    go_ret
    exact ⟨⟨_,rfl,(emod_bd _ hn).1,(emod_bd _ hn).2⟩,hd1,hg1⟩
  · go_enter Tryz.func36,Tryz.ntmps36
    go_wp2_with fail
    refine (l1Byte_x B g nn cap a _ h).mono ?_
    rintro r w1 ⟨⟨x,rfl,hx0,hx1⟩,hd1,hg1⟩
    go_wp2_with fail
    refine (l1Byte_x B g nn cap a _ hd1).mono ?_
    rintro r w2 ⟨⟨y,rfl,hy0,hy1⟩,hd2,hg2⟩
    go_wp2_with fail
    refine (l1Byte_x B g nn cap a _ hd2).mono ?_
    rintro r w3 ⟨⟨z,rfl,hz0,hz1⟩,hd3,hg3⟩
    go_wp2_with fail
    refine (l1Byte_x B g nn cap a _ hd3).mono ?_
    rintro r w4 ⟨⟨u,rfl,hu0,hu1⟩,hd4,hg4⟩
    go_wp2
    go_ret
    exact ⟨⟨_,rfl,(emod_bd _ hn).1,(emod_bd _ hn).2⟩,hd4,gT (gT (gT hg1 hg2) hg3) hg4⟩
theorem l1Below_any (B g:Nat) (n:Int) (w:World) (h:DS w B g) (hn:0<n) (hn2:n≤1000000):Calls Tryz.prog 36 #[.pointer (some ⟨g,0,none⟩),.int .i64 n] w fun r w'=>RangeI (n - 1) r∧DS w' B g∧Gr g w w':=by
  obtain ⟨a,nn,cap,h⟩:=h.dsx
  exact (l1Below_x B g nn cap a n w h hn hn2).mono fun _ _ ⟨h1,h2,h3⟩=>⟨h1,h2.ds,h3⟩
def SomeB (r:Ending):Prop:=∃ b:Bool,r=.returned (.bool b)
def FromI (lo hi:Int) (r:Ending):Prop:=∃ x:Int,r=.returned (.int .i64 x)∧lo≤x∧x≤hi
set_option maxHeartbeats 400000 in
theorem l1Once_any (B g:Nat) (n:Int) (w:World) (h:DS w B g) (hn:0<n) (hn2:n≤1000000):Calls Tryz.prog 41 #[.pointer (some ⟨g,0,none⟩),.int .i64 n] w fun r w'=>SomeB r∧DS w' B g∧Gr g w w':=by
  go_enter Tryz.func41,Tryz.ntmps41
  go_wp2_with fail
  refine (l1Below_any B g n _ h hn hn2).mono ?_
  rintro r w1 ⟨⟨x,rfl,hx0,hx1⟩,hd1,hg1⟩
  go_wp2
  go_ret
  exact ⟨⟨_,rfl⟩,hd1,hg1⟩
set_option maxHeartbeats 400000 in
theorem l1From_any (B g:Nat) (lo hi:Int) (w:World) (h:DS w B g) (h1:-1000000≤lo) (h2:lo≤hi) (h3:hi - lo<1000000) (h4:hi≤1000000):Calls Tryz.prog 37 #[.pointer (some ⟨g,0,none⟩),.int .i64 lo,.int .i64 hi] w fun r w'=>FromI lo hi r∧DS w' B g∧Gr g w w':=by
  go_enter Tryz.func37,Tryz.ntmps37
  go_wp2_with fail
  refine (l1Below_any B g (hi - lo+1) _ h (by omega) (by omega)).mono ?_
  rintro r w1 ⟨⟨x,rfl,hx0,hx1⟩,hd1,hg1⟩
  go_wp2
  go_ret
  exact ⟨⟨lo+x,rfl,by omega,by omega⟩,hd1,hg1⟩
set_option maxHeartbeats 400000 in
theorem l1Min_any (a b:Int) (w:World):Calls Tryz.prog 68 #[.int .i64 a,.int .i64 b] w fun r w'=>r=.returned (.int .i64 (if a<b then a else b))∧w=w':=by
  by_cases h:a<b
  · rw [if_pos h]
    go_enter Tryz.func68,Tryz.ntmps68
    go_wp2
    go_ret
    exact ⟨rfl,rfl⟩
  · rw [if_neg h]
    go_enter Tryz.func68,Tryz.ntmps68
    go_wp2
    go_ret
    exact ⟨rfl,rfl⟩
end Go.Proofs.YthdjlpkcmhajlaaGreat
set_option linter.unusedSimpArgs false
set_option linter.unusedVariables false
namespace Go.Proofs.YthdjlpkcmhajlaaGreat
open Go.RowKit
set_option linter.unusedSimpArgs false
attribute [local simp] bx_size
attribute [local go_sem ↓] zeroHand toLHand toVHand toSHand storeHandC
attribute [local go_sem] runSHand
theorem OHands.rep {w:World} {lo g q k:Nat} {h:Ha} (o:w.ownsRow lo 31 14 (.slice (some ⟨g,0,none⟩) ((List.replicate k h).length+1) q) ((List.replicate k h).length+1) (flatH (List.replicate k h) ++ (hvals h).toList)):OHands w lo (.slice (some ⟨g,0,none⟩) (k+1) q) (List.replicate (k+1) h):=by
  have e:flatH (List.replicate (k+1) h)=flatH (List.replicate k h) ++ (hvals h).toList:=by rw [List.replicate_succ'];simp [flatH]
  unfold OHands
  rw [e]
  simpa using o
set_option maxRecDepth 100000 in
set_option maxHeartbeats 4000000 in
theorem sNewWorld_yes (cap tasks:Int) (w:World) (h0:0≤cap) (h1:cap≤4) (h2:1≤tasks) (h3:tasks≤6) :
    Calls Tryz.prog 67 #[.int .i64 cap,.int .i64 tasks] w fun r w'=>WordR w w' (newWorld cap tasks).1 (.bool (newWorld cap tasks).2) r:=by
  have e1:inB cap 0 4=true:=inB_yes h0 h1
  have e2:inB tasks 1 6=true:=inB_yes h2 h3
  have e:newWorld cap tasks=(⟨newChan cap,List.replicate tasks.toNat (resting 0 0),[],0⟩,true):=by simp [newWorld,e1,e2]
  rw [e]
  have el:(newChan cap).cells.length=40:=by simp [newChan,e1]
  go_enter Tryz.func67,Tryz.ntmps67
  go_wp2_with fail;refine bHit w (by exact zB) fun bb=>?_;refine (sNewChan_any cap _).mono ?_;rintro _ w1 ⟨⟨v1,v2,rfl,o1,o2⟩,hbw1⟩;have hCw1:Below w.heap.size w w1:=bT bb hbw1;have hsw1:=hbw1.size;(try simp at hsw1);have zz:=hQ hbw1 (b:=w.heap.size);(try simp [go_sem] at zz);(try clear z_w x_w f_w l_w);have z_w:=zz;clear zz;obtain ⟨x_w,f_w,l_w⟩:=bO z_w;clear hbw1 bb
  try simp at o1 o2
  have O1:=Lib.hid o1
  have O2:=Lib.hid o2
  obtain ⟨va,vc,rfl,_⟩:=OCells.seg o1
  obtain ⟨vb,vd,rfl,_⟩:=OInts.seg o2
  clear o1 o2
  rw [el]
  replace O1:Hid (OCells w1 (w.heap.size+1) (.slice va 40 vc) (newChan cap).cells):=by have:=O1.out;rw [el] at this;exact this
  go_wp2_with (first|(go_at_call 55;refine (l1In_any _ _ _ _).mono ?_;rintro _ _ ⟨rfl,rfl⟩))
  obtain ⟨i5,hi5,hz5,hsz5,hby5⟩:=info_parts infoHandE
  have n1:∀ j,(Value.slice va 40 vc).ownBlock=some j→j<w1.heap.size:=fun j hj=>(O1.out.lt j hj).2
  have n2:∀ j,(Value.slice vb (newChan cap).words.length vd).ownBlock=some j→j<w1.heap.size:=fun j hj=>(O2.out.lt j hj).2
  go_loopw [8] (fun i wr=>∃ (k:Nat) (v3:Value),k≤tasks.toNat∧i=.int .i64 k∧OCells wr (w.heap.size+1) (.slice va 40 vc) (newChan cap).cells∧OInts wr (w.heap.size+1) (.slice vb (newChan cap).words.length vd) (newChan cap).words∧OHands wr (w1.heap.size+1+1) v3 (List.replicate k (resting 0 0))∧hp wr (w1.heap.size+1)=some (.cells #[.int .i64 (newChan cap).cap,.int .i64 (newChan cap).sent,.int .i64 (newChan cap).got,.int .i64 (newChan cap).fin,.slice va 40 vc,.slice vb (newChan cap).words.length vd,v3,.slice none 0 0,.int .i64 0] 69)∧hp wr w.heap.size=some (.cells #[.int .i64 0,.int .i64 0,.int .i64 0,.int .i64 0,.slice none 0 0,.slice none 0 0,.slice none 0 0,.slice none 0 0,.int .i64 0] 69)∧w1.heap.size+1+1≤wr.heap.size∧Below w.heap.size w wr) (fun i _=>tasks.toNat - (intOf i).toNat)
  case atStart =>
    refine ⟨0,.slice none 0 0,Nat.zero_le _,rfl,World.ownsRow.alloc (World.ownsRow.alloc O1.out _) _,World.ownsRow.alloc (World.ownsRow.alloc O2.out _) _,World.ownsRow_nil _ _ _ _,?_,?_,by simp,by exact zB⟩
    all_goals (simp [go_sem, *])
  case round =>
    obtain ⟨k,v3,hk,rfl,q1,q2,q3,z_w1p,z_w,hsz,hB⟩:=hrel
    have l_w:w.heap.size<wr.heap.size:=by omega
    have l_w1:w1.heap.size<wr.heap.size:=by omega
    have l_w1p:w1.heap.size+1<wr.heap.size:=by omega
    have x_w:∀ o,wr.cell? ⟨w.heap.size,o,none⟩=_:=fun o=>cell_of_row wr w.heap.size o _ _ _ z_w
    have f_w:∀ o,wr.frozen? ⟨w.heap.size,o,none⟩=false:=heap_frozen z_w
    have x_w1p:∀ o,wr.cell? ⟨w1.heap.size+1,o,none⟩=_:=fun o=>cell_of_row wr (w1.heap.size+1) o _ _ _ z_w1p
    have f_w1p:∀ o,wr.frozen? ⟨w1.heap.size+1,o,none⟩=false:=heap_frozen z_w1p
    have Q1:=Lib.hid q1
    have Q2:=Lib.hid q2
    have Q3:=Lib.hid q3
    clear q1 q2 q3
    by_cases hlt:k<tasks.toNat
    · have hk1:(k:Int)<tasks:=by omega
      have hn0:some w.heap.size≠v3.ownBlock:=fun e=>own_ne Q3.out (by omega) e.symm
      have hn1:some w1.heap.size≠v3.ownBlock:=fun e=>own_ne Q3.out (by omega) e.symm
      have hn2:some (w1.heap.size+1)≠v3.ownBlock:=fun e=>own_ne Q3.out (by omega) e.symm
      have off1:=own_off_ty Q1.out Q3.out (by decide)
      have off2:=own_off_ty Q2.out Q3.out (by decide)
      go_wp2_with fail
      go_region_law (first|(go_simp;(go_at_call 21;refine bHit w (by exact zB) fun bb=>?_;refine bHit wr (by exact zB) fun bk=>?_;refine (sResting_any 0 0 _).mono ?_;rintro _ w4 ⟨rfl,hbw4⟩;have hCw4:Below w.heap.size w w4:=bT bb hbw4;have hsw4:=hbw4.size;(try simp at hsw4);have zz:=And.intro (hQ hbw4 (b:=w1.heap.size+1)) <| hQ hbw4 (b:=w.heap.size);(first|simp [go_sem,z_w1p,z_w,l_w,l_w1,l_w1p] at zz|simp [go_sem] at zz|skip);(try clear z_w1p x_w1p f_w1p l_w1p);(try clear z_w x_w f_w l_w);obtain ⟨z_w1p,z_w⟩:=zz;obtain ⟨x_w1p,f_w1p,l_w1p⟩:=bO z_w1p;obtain ⟨x_w,f_w,l_w⟩:=bO z_w;have hKw4:Below wr.heap.size wr w4:=bT bk hbw4;clear hbw4 bb bk))|(refine step_append_lies _ (by rfl) _ _ _ (by rfl) (w1.heap.size+1+1) 31 i5 _ 14 112 Tryz.underlying66 hi5 hz5 hsz5 hby5 rfl (by omega) v3 _ _ (by rfl) (World.ownsRow.drew (World.ownsRow.alloc (own_below Q3.out hKw4) _)) ⟨w4.heap.size,0,none⟩ 1 1 (hvals (resting 0 0)).toList (by rfl) (by rfl) (World.news_of_block (cs:=hvals (resting 0 0)) (t:=31) (fr:=(0,0)) (heap_alloc_new w4 _)) (by simp [hvals,Value.oneCell']) (by omega) (by unfold maxLen;simp;omega) (by simp;omega) (by simp;omega) (w4.heap.size+1) (by simp) ?_;intro g8 q8 w8 o8 g4 hat hlt8;have hsw8:=g4.size;(try (simp at hsw8));have zz:=And.intro (grHp g4 (b:=w1.heap.size+1) (by (try simp) <;> omega) (by assumption)) <| grHp g4 (b:=w.heap.size) (by (try simp) <;> omega) (by assumption);(first|simp [go_sem,z_w1p,z_w,l_w,l_w1,l_w1p] at zz|simp [go_sem] at zz|skip);(try clear z_w1p x_w1p f_w1p l_w1p);(try clear z_w x_w f_w l_w);obtain ⟨z_w1p,z_w⟩:=zz;obtain ⟨x_w1p,f_w1p,l_w1p⟩:=bO z_w1p;obtain ⟨x_w,f_w,l_w⟩:=bO z_w;have B8:Below w.heap.size w w8:=bOwn (by exact zB) g4 (by ((try simp) <;> (try omega))) (fun k hk=>by have:=(Q3.out.lt k hk).1;omega)))
      all_goals (have r1:=(World.ownsRow.alloc (own_below Q1.out hKw4) _).kept g4 off1;have r2:=(World.ownsRow.alloc (own_below Q2.out hKw4) _).kept g4 off2;have r3:OHands w8 (w1.heap.size+1+1) (.slice (some ⟨g8,0,none⟩) (k+1) q8) (List.replicate (k+1) (resting 0 0)):=OHands.rep o8;clear o8 g4)
      all_goals go_wp2
      all_goals go_roundw
      case rel=>exact ⟨k+1,_,by omega,by go_num,own_store r1 (fun e=>by have:=n1 _ e;simp at this;omega) _,own_store r2 (fun e=>by have:=n2 _ e;simp at this;omega) _,own_store r3 (own_ne r3 (by simp)) _,by simp [go_sem, *],by simp [go_sem, *],by simp;omega,by exact zB⟩
      case measure=>simp [intOf];omega
      all_goals (first|exact ⟨k+1,_,by omega,by go_num,own_store r1 (fun e=>by have:=n1 _ e;simp at this;omega) _,own_store r2 (fun e=>by have:=n2 _ e;simp at this;omega) _,own_store r3 (own_ne r3 (by simp)) _,by simp [go_sem, *],by simp [go_sem, *],by simp;omega,by exact zB⟩|(simp [intOf];omega))
    · have hk2:k=tasks.toNat:=by omega
      have hk1:¬ (k:Int)<tasks:=by omega
      have K:=Lib.hid hk2
      have L:=Lib.hid el
      obtain ⟨vf,vg,rfl,_⟩:=OHands.seg Q3.out
      have el2:(List.replicate k (resting 0 0)).length=k:=by simp
      clear hk2 el
      go_wp2
      have o1:=Q1.out
      have o2:=Q2.out
      have o3:=Q3.out
      have p1:=own_lo (lo':=w.heap.size) o1 (by omega)
      have p2:=own_lo (lo':=w.heap.size) o2 (by omega)
      have p3:=own_lo (lo':=w.heap.size) o3 (by omega)
      rw [← K.out]
      refine bodyPost_ret (v:=.tuple #[.agg #[.int .i64 (newChan cap).cap,.int .i64 (newChan cap).sent,.int .i64 (newChan cap).got,.int .i64 (newChan cap).fin,.slice va 40 vc,.slice vb (newChan cap).words.length vd,.slice vf (List.replicate k (resting 0 0)).length vg,.slice none 0 0,.int .i64 0],.bool true]) (by simp [results,Tryz.results67,go_sem, *]) rfl ⟨⟨_,_,_,_,rfl,?_,?_,?_,World.ownsRow_nil _ _ _ _⟩,by exact zB⟩
      · exact zO p1 o1
      · exact zO p2 o2
      · exact zO p3 o3
end Go.Proofs.YthdjlpkcmhajlaaGreat
