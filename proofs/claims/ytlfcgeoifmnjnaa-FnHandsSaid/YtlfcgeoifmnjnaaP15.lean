/-
  The reference model's NewChan; no condition.
  The draws of the laws: what each hands back is some value of its range, and only the cursor turns; the drawn bytes are at most 4096.
  A new world of the reference model; no condition.
  Steps of one alone, of the reference model; lists lie in memory and hold at most 2 ^ 40 elements.
  The draws of chapter 1: a cursor over at most 4096 bytes is made; what is drawn of it are some cells and some numbers.
-/
import Derived.Test.YtlfcgeoifmnjnaaP01
import Derived.Test.YtlfcgeoifmnjnaaP02
import Derived.Test.YtlfcgeoifmnjnaaP03
import Derived.Test.YtlfcgeoifmnjnaaP14
import Derived.IntWalk
import Derived.Deep.RegionLaw
set_option linter.unusedSimpArgs false
set_option linter.unusedVariables false
namespace Go.Proofs.Ytlfcgeoifmnjnaa
open Go.RowKit
theorem own_zeros (w:World) (lo:Nat) (h:lo≤w.heap.size):OCells (w.alloc (.cells (madeCells #[.int .i64 0,.int .i64 0,.int .i64 0] (40*3)) 93)) lo (.slice (some ⟨w.heap.size,0,none⟩) 40 40) (List.replicate 40 C3.zero):=by
  refine ⟨by rw [flatC_len],.inr ⟨w.heap.size,40,_,rfl,h,heap_alloc_new w _,Nat.le_refl _,by decide,size_madeCells _ _,?_⟩⟩
  kernel_rfl
set_option maxRecDepth 100000 in
set_option maxHeartbeats 1000000 in
theorem sNewChan_any (cap:Int) (w:World):Calls Try.prog 45 #[.int .i64 cap] w fun r w' =>
    (∃ v1 v2,r=.returned (.agg #[.int .i64 (newChan cap).cap,.int .i64 (newChan cap).sent,.int .i64 (newChan cap).got,.int .i64 (newChan cap).fin,v1,v2])∧OCells w' w.heap.size v1 (newChan cap).cells∧OInts w' w.heap.size v2 (newChan cap).words)∧Below w.heap.size w w':=by
  by_cases h:inB cap 0 4=true
  · have e:newChan cap=⟨cap,0,0,cap,List.replicate 40 C3.zero,[]⟩:=by simp [newChan,h]
    rw [e]
    have hmk:∀ W:World,(Instr.makeSlice 51 (.int .i64 40) (.int .i64 40)).run Try.prog W=.ok (.slice (some ⟨W.heap.size,0,none⟩) 40 40) (W.alloc (.cells (madeCells #[.int .i64 0,.int .i64 0,.int .i64 0] (40*3)) 93)):=mkCells 40 (by omega)
    have HZ:Hid (∀ (W:World) (lo n:Nat),n=W.heap.size→lo≤W.heap.size→OCells (W.alloc (.cells (madeCells #[.int .i64 0,.int .i64 0,.int .i64 0] (40*3)) 93)) lo (.slice (some ⟨n,0,none⟩) 40 40) (List.replicate 40 C3.zero)):=fun W lo n hn h=>hn ▸ own_zeros W lo h
    generalize madeCells #[.int .i64 0,.int .i64 0,.int .i64 0] (40*3)=mz at hmk HZ
    go_enter Try.func45,Try.ntmps45
    go_wp2_with (go_at_call 24;refine (l1In_any _ _ _ _).mono ?_;rintro _ _ ⟨rfl,rfl⟩)
    refine bodyPost_ret (v:=.agg #[.int .i64 cap,.int .i64 0,.int .i64 0,.int .i64 cap,.slice (some ⟨w.heap.size+1,0,none⟩) 40 40,.slice none 0 0]) (by simp [results,Try.results45,go_sem, *]) rfl ⟨⟨_,_,rfl,HZ.out _ _ _ (by simp) (by simp),World.ownsRow_nil _ _ _ _⟩,?_⟩
    (repeat (with_reducible first|assumption|exact bR|refine bA ?_|refine bD ?_|((first|refine bS ?_ ?_|refine bBx ?_ ?_);rotate_left;focus (try simp) <;> (try omega))))
  · have e:newChan cap=Ch.zero:=by simp [newChan,h]
    rw [e]
    go_enter Try.func45,Try.ntmps45
    go_wp2_with (go_at_call 24;refine (l1In_any _ _ _ _).mono ?_;rintro _ _ ⟨rfl,rfl⟩)
    refine bodyPost_ret (v:=.agg #[.int .i64 0,.int .i64 0,.int .i64 0,.int .i64 0,.slice none 0 0,.slice none 0 0]) (by simp [results,Try.results45,go_sem, *]) rfl ⟨⟨_,_,rfl,World.ownsRow_nil _ _ _ _,World.ownsRow_nil _ _ _ _⟩,?_⟩
    (repeat (with_reducible first|assumption|exact bR|refine bA ?_|refine bD ?_|((first|refine bS ?_ ?_|refine bBx ?_ ?_);rotate_left;focus (try simp) <;> (try omega))))
end Go.Proofs.Ytlfcgeoifmnjnaa
set_option linter.unusedSimpArgs false
set_option linter.unusedVariables false
namespace Go.Proofs.Ytlfcgeoifmnjnaa
open Go.RowKit
theorem heapDN {w:World} {g n:Nat} {x:Option Obj} (h:w.heap[g]?=x):(w.drewN n).heap[g]?=x:=h
theorem bits_and_bd (X m:Int) (h0:0≤m) (h1:m<2147483648):0≤bits .and .i64 X m∧bits .and .i64 X m≤m:=by
  obtain ⟨k,rfl⟩:=Int.eq_ofNat_of_zero_le h0
  have hk:(BitVec.ofInt 64 (k:Int)).toNat=k:=by
    rw [BitVec.toNat_ofInt];simp;omega
  have hle:(BitVec.ofInt 64 X &&& BitVec.ofInt 64 (k:Int)).toNat≤k:=by
    rw [BitVec.toNat_and,hk];exact Nat.and_le_right
  have e:bits .and .i64 X (k:Int)=((BitVec.ofInt 64 X &&& BitVec.ofInt 64 (k:Int)).toNat:Int):=by
    show IntKind.i64.wrap ((BitVec.ofInt 64 X &&& BitVec.ofInt 64 (k:Int)).toNat:Int)=_
    refine IntWalk.i64_in _ ?_
    omega
  rw [e];omega
/-- The cursor in block g: bytes that lie below block B, and how far it is. -/
def DS (w:World) (B g:Nat):Prop:=∃ (a:Option Addr) (n cap i:Nat) (h:Int) (bs:Nat→Int),
  w.heap[g]?=some (.cells #[.slice a n cap,.int .i64 i,.int .i64 h] 50 (0,0))∧i≤n∧n≤4096∧B≤g∧(∀ j,0≤bs j∧bs j≤255)∧Seg w B a n 1 (fun j _=>.int .u8 (bs j))
/-- The same, of these bytes. -/
def DSx (w:World) (B g:Nat) (a:Option Addr) (n cap:Nat):Prop:=∃ (i:Nat) (h:Int) (bs:Nat→Int),
  w.heap[g]?=some (.cells #[.slice a n cap,.int .i64 i,.int .i64 h] 50 (0,0))∧i≤n∧n≤4096∧B≤g∧(∀ j,0≤bs j∧bs j≤255)∧Seg w B a n 1 (fun j _=>.int .u8 (bs j))
theorem DSx.ds {w:World} {B g n cap:Nat} {a:Option Addr} (h:DSx w B g a n cap):DS w B g:=⟨a,n,cap,h⟩
theorem DS.dsx {w:World} {B g:Nat} (h:DS w B g):∃ a n cap,DSx w B g a n cap:=h
theorem DSx.cell0 {w:World} {B g n cap:Nat} {a:Option Addr} (h:DSx w B g a n cap):w.cell? ⟨g,0,none⟩=some (.slice a n cap)∧n≤4096:=by
  obtain ⟨i,h,bs,hg,_,h2,_⟩:=h
  exact ⟨cell_of_row w g 0 _ _ _ hg,h2⟩
theorem DS.lt {w:World} {B g:Nat} (h:DS w B g):g<w.heap.size:=by
  obtain ⟨a,n,cap,i,h,bs,hg,_⟩:=h
  exact (Array.getElem?_eq_some_iff.1 hg).1
theorem DS.le {w:World} {B g:Nat} (h:DS w B g):B≤g:=by
  obtain ⟨a,n,cap,i,h,bs,hg,_,_,hB,_⟩:=h
  exact hB
theorem DS.keep {w w':World} {B g:Nat} (h:DS w B g) (e:w'.heap[g]?=w.heap[g]?) (k:Below B w w'):DS w' B g:=by
  obtain ⟨a,n,cap,i,h,bs,hg,h1,h2,h3,h4,h5⟩:=h
  exact ⟨a,n,cap,i,h,bs,e.trans hg,h1,h2,h3,h4,h5.below k⟩
theorem DS.alloc {w:World} {B g:Nat} {o:Obj} (h:DS w B g):DS (w.alloc o) B g:=h.keep (Below.heap_alloc w o g h.lt) ((Below.refl _ _).alloc (by have:=h.lt;have:=h.le;omega) o)
theorem DS.drew {w:World} {B g:Nat} (h:DS w B g):DS w.drew B g:=h
theorem DS.setCell {w:World} {B g:Nat} {p:Addr} {u:Value} (h:DS w B g) (hp:B≤p.block) (hn:g≠p.block):DS (w.setCell p u) B g:=h.keep (Below.heap_setCell w p u g hn) ((Below.refl _ _).setCell hp u)
/-- A callee that only makes memory leaves the cursor. -/
theorem DS.below {w w':World} {B g:Nat} (h:DS w B g) (k:Below w.heap.size w w'):DS w' B g:=h.keep (k.block g h.lt) (k.mono (by have:=h.lt;have:=h.le;omega))
theorem heap_setCell_at {w:World} {g:Nat} {cs:Array Value} {t:TypeId} (h:w.heap[g]?=some (.cells cs t (0,0))) (j:Nat) (u:Value):(w.setCell ⟨g,j,none⟩ u).heap[g]?=some (.cells (cs.setIfInBounds j u) t (0,0)):=by
  simp [World.setCell,Array.getElem?_modify,h]
theorem heap_frozen {w:World} {g:Nat} {cs:Array Value} {t:TypeId} (h:w.heap[g]?=some (.cells cs t (0,0))) (o:Nat):w.frozen? ⟨g,o,none⟩=false:=by
  simp [World.frozen?,h]
/-- A number of the range 0 .. m. -/
def RangeI (m:Int) (r:Ending):Prop:=∃ x:Int,r=.returned (.int .i64 x)∧0≤x∧x≤m
set_option maxHeartbeats 400000 in
theorem l1Byte_core (B g n cap i:Nat) (a:Option Addr) (h:Int) (bs:Nat→Int) (w:World)
    (hg:w.heap[g]?=some (.cells #[.slice a n cap,.int .i64 i,.int .i64 h] 50 (0,0))) (hi:i≤n) (hn:n≤4096) (hB:B≤g) (hbs:∀ j,0≤bs j∧bs j≤255) (HS:Hid (Seg w B a n 1 (fun j _=>.int .u8 (bs j)))) :
    Calls Try.prog 32 #[.pointer (some ⟨g,0,none⟩)] w fun r w'=>RangeI 255 r∧DSx w' B g a n cap∧Gr g w w':=by
  have c0:=cell_of_row w g 0 _ _ _ hg
  have c1:=cell_of_row w g 1 _ _ _ hg
  have c2:=cell_of_row w g 2 _ _ _ hg
  have f0:=heap_frozen hg
  have hlt:g<w.heap.size:=(Array.getElem?_eq_some_iff.1 hg).1
  simp at c0 c1 c2
  have HG:=Lib.hid hg
  have HB:=Lib.hid hbs
  clear hg hbs
  by_cases hin:i<n
  · obtain h0|⟨b,o,rfl,hb,hc⟩:=HS.out
    · omega
    have cb:=hc i 0 hin (by omega)
    have hbb:=HB.out i
    simp only [Nat.add_zero,Nat.mul_one] at cb
    clear hc
    generalize bs i=y at cb hbb
    obtain ⟨hy0,hy1⟩:=hbb
    have hbg:b≠g:=by omega
    have hgb:¬ g=b:=by omega
    have hi0:(0:Int)≤(i:Int):=by omega
    have hi1:(i:Int)<(n:Int):=by omega
    go_enter Try.func32,Try.ntmps32
    go_wp2
    generalize wrap64 (wrap64 (h*6364136223846793005)+1442695040888963407)=H
    go_quiet (fail)
    go_wp2
    have hx:=bits_and_bd (bits BinOp.xor IntKind.i64 (H / 8589934592) (H / 35184372088832)) 255 (by omega) (by omega)
    generalize bits BinOp.and IntKind.i64 (bits BinOp.xor IntKind.i64 (H / 8589934592) (H / 35184372088832)) 255=x at hx
    obtain ⟨hx0,hx1⟩:=hx
    go_quiet (fail)
    go_wp2
    go_quiet (fail)
    have hz:=bits_and_bd (IntKind.i64.wrap (x+y)) 255 (by omega) (by omega)
    have hz':=bits_and_bd (x+y) 255 (by omega) (by omega)
    go_wp2
    go_ret
    exact ⟨⟨_,rfl,hz'.1,hz'.2⟩,⟨i+1,H,bs,by simpa using heap_setCell_at (heapDN (heap_setCell_at HG.out 2 _)) 1 _,by omega,hn,hB,HB.out,HS.out.below (by repeat (first|exact Below.refl _ _|refine Below.setCell ?_ hB _|refine bDN ?_ _))⟩,by repeat (first|exact gR _ _|refine gS ?_ (.inl rfl)|refine gDN ?_ _)⟩
  · have hin2:¬ (i:Int)<(n:Int):=by omega
    go_enter Try.func32,Try.ntmps32
    go_wp2
    generalize wrap64 (wrap64 (h*6364136223846793005)+1442695040888963407)=H
    go_quiet (fail)
    go_wp2
    have hx:=bits_and_bd (bits BinOp.xor IntKind.i64 (H / 8589934592) (H / 35184372088832)) 255 (by omega) (by omega)
    generalize bits BinOp.and IntKind.i64 (bits BinOp.xor IntKind.i64 (H / 8589934592) (H / 35184372088832)) 255=x at hx
    obtain ⟨hx0,hx1⟩:=hx
    go_quiet (fail)
    go_wp2
    go_ret
    exact ⟨⟨x,rfl,hx0,hx1⟩,⟨i,H,bs,by simpa using heap_setCell_at HG.out 2 _,hi,hn,hB,HB.out,HS.out.below (bDN (bDN ((Below.refl _ _).setCell hB _) _) _)⟩,gDN (gDN (gS (gR _ _) (.inl rfl)) _) _⟩
theorem l1Byte_x (B g n cap:Nat) (a:Option Addr) (w:World) (h:DSx w B g a n cap):Calls Try.prog 32 #[.pointer (some ⟨g,0,none⟩)] w fun r w'=>RangeI 255 r∧DSx w' B g a n cap∧Gr g w w':=by
  obtain ⟨i,h,bs,hg,h1,h2,h3,h4,h5⟩:=h
  exact l1Byte_core B g n cap i a h bs w hg h1 h2 h3 h4 (Lib.hid h5)
theorem l1Byte_any (B g:Nat) (w:World) (h:DS w B g):Calls Try.prog 32 #[.pointer (some ⟨g,0,none⟩)] w fun r w'=>RangeI 255 r∧DS w' B g∧Gr g w w':=by
  obtain ⟨a,n,cap,h⟩:=h.dsx
  exact (l1Byte_x B g n cap a w h).mono fun _ _ ⟨h1,h2,h3⟩=>⟨h1,h2.ds,h3⟩
theorem emod_bd (x:Int) {n:Int} (hn:0<n):0≤x % n∧x % n≤n - 1:=by
  have:=Int.emod_nonneg x (show n≠0 by omega)
  have:=Int.emod_lt_of_pos x hn
  omega
set_option maxHeartbeats 400000 in
/-- A number below n, of one byte or of four. -/
theorem l1Below_x (B g nn cap:Nat) (a:Option Addr) (n:Int) (w:World) (h:DSx w B g a nn cap) (hn:0<n) (hn2:n≤1000000):Calls Try.prog 16 #[.pointer (some ⟨g,0,none⟩),.int .i64 n] w fun r w'=>RangeI (n - 1) r∧DSx w' B g a nn cap∧Gr g w w':=by
  by_cases hs:n≤256
  · go_enter Try.func16,Try.ntmps16
    go_wp2_with fail
    refine (l1Byte_x B g nn cap a _ h).mono ?_
    rintro r w1 ⟨⟨x,rfl,hx0,hx1⟩,hd1,hg1⟩
    go_wp2
    go_ret
    exact ⟨⟨_,rfl,(emod_bd _ hn).1,(emod_bd _ hn).2⟩,hd1,hg1⟩
  · go_enter Try.func16,Try.ntmps16
    go_wp2_with fail
    refine (l1Byte_x B g nn cap a _ h).mono ?_
    rintro r w1 ⟨⟨x,rfl,hx0,hx1⟩,hd1,hg1⟩
    go_wp2_with fail
    refine (l1Byte_x B g nn cap a _ hd1).mono ?_
    rintro r w2 ⟨⟨y,rfl,hy0,hy1⟩,hd2,hg2⟩
    go_wp2_with fail
    refine (l1Byte_x B g nn cap a _ hd2).mono ?_
    rintro r w3 ⟨⟨z,rfl,hz0,hz1⟩,hd3,hg3⟩
    go_wp2_with fail
    refine (l1Byte_x B g nn cap a _ hd3).mono ?_
    rintro r w4 ⟨⟨u,rfl,hu0,hu1⟩,hd4,hg4⟩
    go_wp2
    go_ret
    exact ⟨⟨_,rfl,(emod_bd _ hn).1,(emod_bd _ hn).2⟩,hd4,gT (gT (gT hg1 hg2) hg3) hg4⟩
theorem l1Below_any (B g:Nat) (n:Int) (w:World) (h:DS w B g) (hn:0<n) (hn2:n≤1000000):Calls Try.prog 16 #[.pointer (some ⟨g,0,none⟩),.int .i64 n] w fun r w'=>RangeI (n - 1) r∧DS w' B g∧Gr g w w':=by
  obtain ⟨a,nn,cap,h⟩:=h.dsx
  exact (l1Below_x B g nn cap a n w h hn hn2).mono fun _ _ ⟨h1,h2,h3⟩=>⟨h1,h2.ds,h3⟩
def SomeB (r:Ending):Prop:=∃ b:Bool,r=.returned (.bool b)
def SomeI (r:Ending):Prop:=∃ x:Int,r=.returned (.int .i64 x)
def FromI (lo hi:Int) (r:Ending):Prop:=∃ x:Int,r=.returned (.int .i64 x)∧lo≤x∧x≤hi
set_option maxHeartbeats 400000 in
theorem l1Once_any (B g:Nat) (n:Int) (w:World) (h:DS w B g) (hn:0<n) (hn2:n≤1000000):Calls Try.prog 17 #[.pointer (some ⟨g,0,none⟩),.int .i64 n] w fun r w'=>SomeB r∧DS w' B g∧Gr g w w':=by
  go_enter Try.func17,Try.ntmps17
  go_wp2_with fail
  refine (l1Below_any B g n _ h hn hn2).mono ?_
  rintro r w1 ⟨⟨x,rfl,hx0,hx1⟩,hd1,hg1⟩
  go_wp2
  go_ret
  exact ⟨⟨_,rfl⟩,hd1,hg1⟩
set_option maxHeartbeats 400000 in
theorem l1From_any (B g:Nat) (lo hi:Int) (w:World) (h:DS w B g) (h1:-1000000≤lo) (h2:lo≤hi) (h3:hi - lo<1000000) (h4:hi≤1000000):Calls Try.prog 30 #[.pointer (some ⟨g,0,none⟩),.int .i64 lo,.int .i64 hi] w fun r w'=>FromI lo hi r∧DS w' B g∧Gr g w w':=by
  go_enter Try.func30,Try.ntmps30
  go_wp2_with fail
  refine (l1Below_any B g (hi - lo+1) _ h (by omega) (by omega)).mono ?_
  rintro r w1 ⟨⟨x,rfl,hx0,hx1⟩,hd1,hg1⟩
  go_wp2
  go_ret
  exact ⟨⟨lo+x,rfl,by omega,by omega⟩,hd1,hg1⟩
set_option maxHeartbeats 400000 in
theorem l1Min_any (a b:Int) (w:World):Calls Try.prog 38 #[.int .i64 a,.int .i64 b] w fun r w'=>r=.returned (.int .i64 (if a<b then a else b))∧w=w':=by
  by_cases h:a<b
  · rw [if_pos h]
    go_enter Try.func38,Try.ntmps38
    go_wp2
    go_ret
    exact ⟨rfl,rfl⟩
  · rw [if_neg h]
    go_enter Try.func38,Try.ntmps38
    go_wp2
    go_ret
    exact ⟨rfl,rfl⟩
set_option maxHeartbeats 400000 in
theorem l1Odd_any (B g:Nat) (w:World) (h:DS w B g):Calls Try.prog 42 #[.pointer (some ⟨g,0,none⟩)] w fun r w'=>SomeI r∧DS w' B g∧Gr g w w':=by
  have hlt:=h.lt
  go_enter Try.func42,Try.ntmps42
  go_wp2_with fail
  refine (l1Below_any B g 10 _ h.alloc (by omega) (by omega)).mono ?_
  rintro r w1 ⟨⟨x,rfl,hx0,hx1⟩,hd1,hg1⟩
  obtain ⟨k,rfl⟩:=Int.eq_ofNat_of_zero_le hx0
  have hk:k<10:=by omega
  have hz:w.heap.size≤w1.heap.size:=Nat.le_trans (by simp) hg1.size
  have hc:∃ v:Int,w1.cell? ⟨w.heap.size,k,none⟩=some (.int .i64 v):=by
    rw [gCell hg1 (by simp) (by omega)]
    have:k=0∨k=1∨k=2∨k=3∨k=4∨k=5∨k=6∨k=7∨k=8∨k=9:=by omega
    rcases this with rfl|rfl|rfl|rfl|rfl|rfl|rfl|rfl|rfl|rfl <;> simp
  obtain ⟨v,hv⟩:=hc
  go_wp2
  go_ret
  exact ⟨⟨_,rfl⟩,hd1,gT (gA (gR _ _)) hg1⟩
set_option maxHeartbeats 400000 in
theorem l1Num_any (B g:Nat) (n:Int) (w:World) (h:DS w B g) (hn:0≤n) (hn2:n<1000000):Calls Try.prog 31 #[.pointer (some ⟨g,0,none⟩),.int .i64 n] w fun r w'=>SomeI r∧DS w' B g∧Gr g w w':=by
  have hlt:=h.lt
  go_enter Try.func31,Try.ntmps31
  go_wp2_with fail
  refine (l1Once_any B g 10 _ h (by omega) (by omega)).mono ?_
  rintro r w1 ⟨⟨x,rfl⟩,hd1,hg1⟩
  have hl1:=hd1.lt
  cases x
  · go_wp2_with fail
    refine (l1Once_any B g 2 _ hd1 (by omega) (by omega)).mono ?_
    rintro r w2 ⟨⟨y,rfl⟩,hd2,hg2⟩
    cases y
    · go_wp2_with fail
      refine (l1Below_any B g _ _ hd2 (by omega) (by omega)).mono ?_
      rintro r w3 ⟨⟨z,rfl,hz0,hz1⟩,hd3,hg3⟩
      go_wp2
      go_ret
      exact ⟨⟨_,rfl⟩,hd3,gT (gT hg1 hg2) hg3⟩
    · go_wp2_with fail
      refine (l1Min_any _ _ _).mono ?_
      rintro _ _ ⟨rfl,rfl⟩
      have hm:0≤(if n<4 then n else 4)∧(if n<4 then n else 4)≤4:=by split <;> omega
      generalize (if n<4 then n else 4)=m at hm
      obtain ⟨hm0,hm1⟩:=hm
      go_wp2_with fail
      refine (l1Below_any B g _ _ hd2 (by omega) (by omega)).mono ?_
      rintro r w3 ⟨⟨z,rfl,hz0,hz1⟩,hd3,hg3⟩
      go_wp2
      go_ret
      exact ⟨⟨_,rfl⟩,hd3,gT (gT hg1 hg2) hg3⟩
  · go_wp2_with fail
    refine (l1Odd_any B g _ hd1).mono ?_
    rintro r w2 ⟨⟨y,rfl⟩,hd2,hg2⟩
    have hl2:=hd2.lt
    go_wp2_with fail
    refine (l1Below_any B g 4 _ hd2.alloc (by omega) (by omega)).mono ?_
    rintro r w3 ⟨⟨x,rfl,hx0,hx1⟩,hd3,hg3⟩
    obtain ⟨k,rfl⟩:=Int.eq_ofNat_of_zero_le hx0
    have hk:k<4:=by omega
    have hc:∃ v:Int,w3.cell? ⟨w2.heap.size,k,none⟩=some (.int .i64 v):=by
      rw [gCell hg3 (by simp) (by omega)]
      have:k=0∨k=1∨k=2∨k=3:=by omega
      rcases this with rfl|rfl|rfl|rfl <;> simp
    obtain ⟨v,hv⟩:=hc
    go_wp2
    go_ret
    exact ⟨⟨_,rfl⟩,hd3,gT (gA (gT hg1 hg2)) hg3⟩
end Go.Proofs.Ytlfcgeoifmnjnaa
set_option linter.unusedSimpArgs false
set_option linter.unusedVariables false
namespace Go.Proofs.Ytlfcgeoifmnjnaa
open Go.RowKit
set_option linter.unusedSimpArgs false
attribute [local simp] bx_size
attribute [local go_sem ↓] zeroHand toLHand toVHand toSHand storeHandC
attribute [local go_sem] runSHand
theorem OHands.rep {w:World} {lo g q k:Nat} {h:Ha} (o:w.ownsRow lo 27 14 (.slice (some ⟨g,0,none⟩) ((List.replicate k h).length+1) q) ((List.replicate k h).length+1) (flatH (List.replicate k h) ++ (hvals h).toList)):OHands w lo (.slice (some ⟨g,0,none⟩) (k+1) q) (List.replicate (k+1) h):=by
  have e:flatH (List.replicate (k+1) h)=flatH (List.replicate k h) ++ (hvals h).toList:=by rw [List.replicate_succ'];simp [flatH]
  unfold OHands
  rw [e]
  simpa using o
set_option maxRecDepth 100000 in
set_option maxHeartbeats 4000000 in
theorem sNewWorld_yes (cap tasks:Int) (w:World) (h0:0≤cap) (h1:cap≤4) (h2:1≤tasks) (h3:tasks≤6) :
    Calls Try.prog 37 #[.int .i64 cap,.int .i64 tasks] w fun r w'=>WordR w w' (newWorld cap tasks).1 (.bool (newWorld cap tasks).2) r:=by
  have e1:inB cap 0 4=true:=inB_yes h0 h1
  have e2:inB tasks 1 6=true:=inB_yes h2 h3
  have e:newWorld cap tasks=(⟨newChan cap,List.replicate tasks.toNat (resting 0 0),[],0⟩,true):=by simp [newWorld,e1,e2]
  rw [e]
  have el:(newChan cap).cells.length=40:=by simp [newChan,e1]
  go_enter Try.func37,Try.ntmps37
  go_wp2_with fail;refine bHit w (by (repeat (with_reducible first|assumption|exact bR|refine bA ?_|refine bD ?_|((first|refine bS ?_ ?_|refine bBx ?_ ?_);rotate_left;focus (try simp) <;> (try omega))))) fun bb=>?_;refine (sNewChan_any cap _).mono ?_;rintro _ w1 ⟨⟨v1,v2,rfl,o1,o2⟩,hbw1⟩;have hCw1:Below w.heap.size w w1:=bT bb hbw1;have hsw1:=hbw1.size;(try simp at hsw1);have zz:=hpB hbw1 (b:=w.heap.size) (by (try simp) <;> omega);(try simp [go_sem] at zz);(try clear z_w x_w f_w l_w);have z_w:=zz;clear zz;obtain ⟨x_w,f_w,l_w⟩:=bO z_w;clear hbw1 bb
  try simp at o1 o2
  have O1:=Lib.hid o1
  have O2:=Lib.hid o2
  obtain ⟨va,vc,rfl,_⟩:=OCells.seg o1
  obtain ⟨vb,vd,rfl,_⟩:=OInts.seg o2
  clear o1 o2
  rw [el]
  replace O1:Hid (OCells w1 (w.heap.size+1) (.slice va 40 vc) (newChan cap).cells):=by have:=O1.out;rw [el] at this;exact this
  go_wp2_with (first|(go_at_call 24;refine (l1In_any _ _ _ _).mono ?_;rintro _ _ ⟨rfl,rfl⟩))
  obtain ⟨i5,hi5,hz5,hsz5,hby5⟩:=info_parts infoHandE
  have n1:∀ j,(Value.slice va 40 vc).ownBlock=some j→j<w1.heap.size:=fun j hj=>(O1.out.lt j hj).2
  have n2:∀ j,(Value.slice vb (newChan cap).words.length vd).ownBlock=some j→j<w1.heap.size:=fun j hj=>(O2.out.lt j hj).2
  go_loopw [8] (fun i wr=>∃ (k:Nat) (v3:Value),k≤tasks.toNat∧i=.int .i64 k∧OCells wr (w.heap.size+1) (.slice va 40 vc) (newChan cap).cells∧OInts wr (w.heap.size+1) (.slice vb (newChan cap).words.length vd) (newChan cap).words∧OHands wr (w1.heap.size+1+1) v3 (List.replicate k (resting 0 0))∧hp wr (w1.heap.size+1)=some (.cells #[.int .i64 (newChan cap).cap,.int .i64 (newChan cap).sent,.int .i64 (newChan cap).got,.int .i64 (newChan cap).fin,.slice va 40 vc,.slice vb (newChan cap).words.length vd,v3,.slice none 0 0,.int .i64 0] 58)∧hp wr w.heap.size=some (.cells #[.int .i64 0,.int .i64 0,.int .i64 0,.int .i64 0,.slice none 0 0,.slice none 0 0,.slice none 0 0,.slice none 0 0,.int .i64 0] 58)∧w1.heap.size+1+1≤wr.heap.size∧Below w.heap.size w wr) (fun i _=>tasks.toNat - (intOf i).toNat)
  case atStart =>
    refine ⟨0,.slice none 0 0,Nat.zero_le _,rfl,World.ownsRow.alloc (World.ownsRow.alloc O1.out _) _,World.ownsRow.alloc (World.ownsRow.alloc O2.out _) _,World.ownsRow_nil _ _ _ _,?_,?_,by simp,by (repeat (with_reducible first|assumption|exact bR|refine bA ?_|refine bD ?_|((first|refine bS ?_ ?_|refine bBx ?_ ?_);rotate_left;focus (try simp) <;> (try omega))))⟩
    all_goals (simp [go_sem, *])
  case round =>
    obtain ⟨k,v3,hk,rfl,q1,q2,q3,z_w1p,z_w,hsz,hB⟩:=hrel
    have l_w:w.heap.size<wr.heap.size:=by omega
    have l_w1:w1.heap.size<wr.heap.size:=by omega
    have l_w1p:w1.heap.size+1<wr.heap.size:=by omega
    have x_w:∀ o,wr.cell? ⟨w.heap.size,o,none⟩=_:=fun o=>cell_of_row wr w.heap.size o _ _ _ z_w
    have f_w:∀ o,wr.frozen? ⟨w.heap.size,o,none⟩=false:=heap_frozen z_w
    have x_w1p:∀ o,wr.cell? ⟨w1.heap.size+1,o,none⟩=_:=fun o=>cell_of_row wr (w1.heap.size+1) o _ _ _ z_w1p
    have f_w1p:∀ o,wr.frozen? ⟨w1.heap.size+1,o,none⟩=false:=heap_frozen z_w1p
    have Q1:=Lib.hid q1
    have Q2:=Lib.hid q2
    have Q3:=Lib.hid q3
    clear q1 q2 q3
    by_cases hlt:k<tasks.toNat
    · have hk1:(k:Int)<tasks:=by omega
      have hn0:some w.heap.size≠v3.ownBlock:=fun e=>own_ne Q3.out (by omega) e.symm
      have hn1:some w1.heap.size≠v3.ownBlock:=fun e=>own_ne Q3.out (by omega) e.symm
      have hn2:some (w1.heap.size+1)≠v3.ownBlock:=fun e=>own_ne Q3.out (by omega) e.symm
      have off1:=own_off_ty Q1.out Q3.out (by decide)
      have off2:=own_off_ty Q2.out Q3.out (by decide)
      go_wp2_with fail
      go_region_law (first|(go_simp;(go_at_call 13;refine bHit w (by (repeat (with_reducible first|assumption|exact bR|refine bA ?_|refine bD ?_|((first|refine bS ?_ ?_|refine bBx ?_ ?_);rotate_left;focus (try simp) <;> (try omega))))) fun bb=>?_;refine bHit wr (by (repeat (with_reducible first|assumption|exact bR|refine bA ?_|refine bD ?_|((first|refine bS ?_ ?_|refine bBx ?_ ?_);rotate_left;focus (try simp) <;> (try omega))))) fun bk=>?_;refine (sResting_any 0 0 _).mono ?_;rintro _ w4 ⟨rfl,hbw4⟩;have hCw4:Below w.heap.size w w4:=bT bb hbw4;have hsw4:=hbw4.size;(try simp at hsw4);have zz:=And.intro (hpB hbw4 (b:=w1.heap.size+1) (by (try simp) <;> omega)) <| hpB hbw4 (b:=w.heap.size) (by (try simp) <;> omega);(first|simp [go_sem,z_w1p,z_w,l_w,l_w1,l_w1p] at zz|simp [go_sem] at zz|skip);(try clear z_w1p x_w1p f_w1p l_w1p);(try clear z_w x_w f_w l_w);obtain ⟨z_w1p,z_w⟩:=zz;obtain ⟨x_w1p,f_w1p,l_w1p⟩:=bO z_w1p;obtain ⟨x_w,f_w,l_w⟩:=bO z_w;have hKw4:Below wr.heap.size wr w4:=bT bk hbw4;clear hbw4 bb bk))|(refine step_append_lies _ (by rfl) _ _ _ (by rfl) (w1.heap.size+1+1) 27 i5 _ 14 112 Try.underlying55 hi5 hz5 hsz5 hby5 rfl (by omega) v3 _ _ (by rfl) (World.ownsRow.drew (World.ownsRow.alloc (own_below Q3.out hKw4) _)) ⟨w4.heap.size,0,none⟩ 1 1 (hvals (resting 0 0)).toList (by rfl) (by rfl) (World.news_of_block (cs:=hvals (resting 0 0)) (t:=27) (fr:=(0,0)) (heap_alloc_new w4 _)) (by simp [hvals,Value.oneCell']) (by omega) (by unfold maxLen;simp;omega) (by simp;omega) (by simp;omega) (w4.heap.size+1) (by simp) ?_;intro g8 q8 w8 o8 g4 hat hlt8;have hsw8:=g4.size;(try (simp at hsw8));have zz:=And.intro (grHp g4 (b:=w1.heap.size+1) (by (try simp) <;> omega) (by assumption)) <| grHp g4 (b:=w.heap.size) (by (try simp) <;> omega) (by assumption);(first|simp [go_sem,z_w1p,z_w,l_w,l_w1,l_w1p] at zz|simp [go_sem] at zz|skip);(try clear z_w1p x_w1p f_w1p l_w1p);(try clear z_w x_w f_w l_w);obtain ⟨z_w1p,z_w⟩:=zz;obtain ⟨x_w1p,f_w1p,l_w1p⟩:=bO z_w1p;obtain ⟨x_w,f_w,l_w⟩:=bO z_w;have B8:Below w.heap.size w w8:=bOwn (by (repeat (with_reducible first|assumption|exact bR|refine bA ?_|refine bD ?_|((first|refine bS ?_ ?_|refine bBx ?_ ?_);rotate_left;focus (try simp) <;> (try omega))))) g4 (by ((try simp) <;> (try omega))) (fun k hk=>by have:=(Q3.out.lt k hk).1;omega)))
      all_goals (have r1:=(World.ownsRow.alloc (own_below Q1.out hKw4) _).kept g4 off1;have r2:=(World.ownsRow.alloc (own_below Q2.out hKw4) _).kept g4 off2;have r3:OHands w8 (w1.heap.size+1+1) (.slice (some ⟨g8,0,none⟩) (k+1) q8) (List.replicate (k+1) (resting 0 0)):=OHands.rep o8;clear o8 g4)
      all_goals go_wp2
      all_goals go_roundw
      case rel=>exact ⟨k+1,_,by omega,by go_num,own_store r1 (fun e=>by have:=n1 _ e;simp at this;omega) _,own_store r2 (fun e=>by have:=n2 _ e;simp at this;omega) _,own_store r3 (own_ne r3 (by simp)) _,by simp [go_sem, *],by simp [go_sem, *],by simp;omega,by (repeat (with_reducible first|assumption|exact bR|refine bA ?_|refine bD ?_|((first|refine bS ?_ ?_|refine bBx ?_ ?_);rotate_left;focus (try simp) <;> (try omega))))⟩
      case measure=>simp [intOf];omega
      all_goals (first|exact ⟨k+1,_,by omega,by go_num,own_store r1 (fun e=>by have:=n1 _ e;simp at this;omega) _,own_store r2 (fun e=>by have:=n2 _ e;simp at this;omega) _,own_store r3 (own_ne r3 (by simp)) _,by simp [go_sem, *],by simp [go_sem, *],by simp;omega,by (repeat (with_reducible first|assumption|exact bR|refine bA ?_|refine bD ?_|((first|refine bS ?_ ?_|refine bBx ?_ ?_);rotate_left;focus (try simp) <;> (try omega))))⟩|(simp [intOf];omega))
    · have hk2:k=tasks.toNat:=by omega
      have hk1:¬ (k:Int)<tasks:=by omega
      have K:=Lib.hid hk2
      have L:=Lib.hid el
      obtain ⟨vf,vg,rfl,_⟩:=OHands.seg Q3.out
      have el2:(List.replicate k (resting 0 0)).length=k:=by simp
      clear hk2 el
      go_wp2
      have o1:=Q1.out
      have o2:=Q2.out
      have o3:=Q3.out
      have p1:=own_lo (lo':=w.heap.size) o1 (by omega)
      have p2:=own_lo (lo':=w.heap.size) o2 (by omega)
      have p3:=own_lo (lo':=w.heap.size) o3 (by omega)
      rw [← K.out]
      refine bodyPost_ret (v:=.tuple #[.agg #[.int .i64 (newChan cap).cap,.int .i64 (newChan cap).sent,.int .i64 (newChan cap).got,.int .i64 (newChan cap).fin,.slice va 40 vc,.slice vb (newChan cap).words.length vd,.slice vf (List.replicate k (resting 0 0)).length vg,.slice none 0 0,.int .i64 0],.bool true]) (by simp [results,Try.results37,go_sem, *]) rfl ⟨⟨_,_,_,_,rfl,?_,?_,?_,World.ownsRow_nil _ _ _ _⟩,by (repeat (with_reducible first|assumption|exact bR|refine bA ?_|refine bD ?_|((first|refine bS ?_ ?_|refine bBx ?_ ?_);rotate_left;focus (try simp) <;> (try omega))))⟩
      · (repeat first|with_reducible exact p1|with_reducible refine oAl ?_ _|with_reducible refine oDr ?_|((with_reducible first|refine own_store ?_ ?_ _|refine own_box ?_ ?_);rotate_left;focus first|(refine own_ne o1 ?_;(try dsimp only);omega)|(refine own_ne' o1 ?_;(try dsimp only);omega)))
      · (repeat first|with_reducible exact p2|with_reducible refine oAl ?_ _|with_reducible refine oDr ?_|((with_reducible first|refine own_store ?_ ?_ _|refine own_box ?_ ?_);rotate_left;focus first|(refine own_ne o2 ?_;(try dsimp only);omega)|(refine own_ne' o2 ?_;(try dsimp only);omega)))
      · (repeat first|with_reducible exact p3|with_reducible refine oAl ?_ _|with_reducible refine oDr ?_|((with_reducible first|refine own_store ?_ ?_ _|refine own_box ?_ ?_);rotate_left;focus first|(refine own_ne o3 ?_;(try dsimp only);omega)|(refine own_ne' o3 ?_;(try dsimp only);omega)))
end Go.Proofs.Ytlfcgeoifmnjnaa
set_option linter.unusedSimpArgs false
set_option linter.unusedVariables false
namespace Go.Proofs.Ytlfcgeoifmnjnaa
open Go.RowKit
set_option linter.unusedSimpArgs false
attribute [local simp] bx_size
attribute [local go_sem ↓] zeroHand toLHand toVHand toSHand storeHandC
attribute [local go_sem] runSHand
theorem own_opens {w:World} {lo:Nat} {t:TypeId} {n k:Nat} {v:Value} {xs:List Value} {f:Nat→Nat→Value} (h:w.ownsRow lo t k v n xs) (hf:∀ i j,i<n→j<k→xs[i*k+j]?=some (f i j)):∃ (a:Option Addr) (cap:Nat),v=.slice a n cap∧Seg w w.heap.size a n k f∧(a=none→n=0∧cap=0):=by
  obtain ⟨a,cap,rfl,hs⟩:=own_seg h hf
  refine ⟨a,cap,rfl,hs,fun e=>?_⟩
  subst e
  rcases h.2 with ⟨e,h0⟩|⟨g,cap,cur,e,_⟩
  · simp at e;exact ⟨h0,e.2⟩
  · simp at e
/-- The lists of a world of the call's own, opened. -/
theorem WOwn.opens {w:World} {lo:Nat} {v1 v2 v3 v4:Value} {y:Wo} (h:WOwn w lo v1 v2 v3 v4 y):∃ (a b d e:Option Addr) (p q r s:Nat),v1=.slice a y.ch.cells.length p∧v2=.slice b y.ch.words.length q∧v3=.slice d y.hands.length r∧v4=.slice e y.deals.length s∧Seg w w.heap.size a y.ch.cells.length 3 (cellF y.ch.cells)∧(a=none→p=0)∧Seg w w.heap.size b y.ch.words.length 1 (intF y.ch.words)∧(b=none→q=0)∧Seg w w.heap.size d y.hands.length 14 (handF y.hands)∧(d=none→y.hands.length=0∧r=0)∧Seg w w.heap.size e y.deals.length 7 (dealF y.deals)∧(e=none→y.deals.length=0∧s=0):=by
  obtain ⟨h1,h2,h3,h4⟩:=h
  obtain ⟨a,p,e1,s1,z1⟩:=own_opens h1 fun i j hi hj=>flatC_get y.ch.cells i j hi hj
  obtain ⟨b,q,e2,s2,z2⟩:=own_opens (f:=intF y.ch.words) h2 fun i j hi hj=>by
    have:j=0:=by omega
    subst this
    simp [ints,intF,List.getD,hi]
  obtain ⟨d,r,e3,s3,z3⟩:=own_opens h3 fun i j hi hj=>flatH_get y.hands i j hi hj
  obtain ⟨e,s,e4,s4,z4⟩:=own_opens h4 fun i j hi hj=>flatD_get y.deals i j hi hj
  exact ⟨a,b,d,e,p,q,r,s,e1,e2,e3,e4,s1,fun h=>(z1 h).2,s2,fun h=>(z2 h).2,s3,z3,s4,z4⟩
theorem WOwn.lo {w:World} {lo lo':Nat} {v1 v2 v3 v4:Value} {y:Wo} (h:WOwn w lo v1 v2 v3 v4 y) (hl:lo'≤lo):WOwn w lo' v1 v2 v3 v4 y:=⟨own_lo h.1 hl,own_lo h.2.1 hl,own_lo h.2.2.1 hl,own_lo h.2.2.2 hl⟩
theorem WOwn.below {w w':World} {lo:Nat} {v1 v2 v3 v4:Value} {y:Wo} (h:WOwn w lo v1 v2 v3 v4 y) (hb:Below w.heap.size w w'):WOwn w' lo v1 v2 v3 v4 y:=⟨own_below h.1 hb,own_below h.2.1 hb,own_below h.2.2.1 hb,own_below h.2.2.2 hb⟩
/-- None of the lists lies in block b. -/
def WOff (b:Nat) (v1 v2 v3 v4:Value):Prop:=v1.ownBlock≠some b∧v2.ownBlock≠some b∧v3.ownBlock≠some b∧v4.ownBlock≠some b
theorem WOwn.store {w:World} {lo:Nat} {v1 v2 v3 v4:Value} {y:Wo} (h:WOwn w lo v1 v2 v3 v4 y) {p:Addr} (hp:WOff p.block v1 v2 v3 v4) (u:Value):WOwn (w.setCell p u) lo v1 v2 v3 v4 y:=⟨own_store h.1 hp.1 u,own_store h.2.1 hp.2.1 u,own_store h.2.2.1 hp.2.2.1 u,own_store h.2.2.2 hp.2.2.2 u⟩
theorem WOwn.alloc {w:World} {lo:Nat} {v1 v2 v3 v4:Value} {y:Wo} (h:WOwn w lo v1 v2 v3 v4 y) (o:Obj):WOwn (w.alloc o) lo v1 v2 v3 v4 y:=⟨World.ownsRow.alloc h.1 o,World.ownsRow.alloc h.2.1 o,World.ownsRow.alloc h.2.2.1 o,World.ownsRow.alloc h.2.2.2 o⟩
theorem WOwn.drew {w:World} {lo:Nat} {v1 v2 v3 v4:Value} {y:Wo} (h:WOwn w lo v1 v2 v3 v4 y):WOwn w.drew lo v1 v2 v3 v4 y:=h
theorem WOwn.ne {w:World} {lo b:Nat} {v1 v2 v3 v4:Value} {y:Wo} (h:WOwn w lo v1 v2 v3 v4 y) (hb:b<lo):WOff b v1 v2 v3 v4:=⟨own_ne h.1 hb,own_ne h.2.1 hb,own_ne h.2.2.1 hb,own_ne h.2.2.2 hb⟩
theorem WOwn.ne' {w:World} {lo b:Nat} {v1 v2 v3 v4:Value} {y:Wo} (h:WOwn w lo v1 v2 v3 v4 y) (hb:w.heap.size≤b):WOff b v1 v2 v3 v4:=⟨own_ne' h.1 hb,own_ne' h.2.1 hb,own_ne' h.2.2.1 hb,own_ne' h.2.2.2 hb⟩
theorem right_len {y:Wo} (h:RightW y):y.ch.cells.length≤1099511627776∧y.ch.words.length≤1099511627776∧y.hands.length≤1099511627776∧y.deals.length≤1099511627776:=by
  have:=chan_parts h.ch;have:=h.h6;have:=h.d
  omega
theorem alone_next {n:Nat} {y:Wo} {who:Int} (hp:(handAt y who).pos≠0) (hs:(step11 y who).2=true):aloneN (n+1) y who=((aloneN n (step11 y who).1 who).1,(aloneN n (step11 y who).1 who).2+1):=by
  simp [aloneN,hp,hs]
theorem alone_stuck {n:Nat} {y:Wo} {who:Int} (hs:(step11 y who).2=false):aloneN n y who=(y,0):=by
  cases n with
  | zero=>rfl
  | succ n=>simp [aloneN,hs]
set_option maxRecDepth 100000 in
set_option maxHeartbeats 4000000 in
theorem alone_yes (x:Wo) (who most:Int) (a b d e:Option Addr) (p q r s:Nat) (w:World) (h1:Seg w w.heap.size a x.ch.cells.length 3 (cellF x.ch.cells)) (z1:a=none→p=0) (h2:Seg w w.heap.size b x.ch.words.length 1 (intF x.ch.words)) (z2:b=none→q=0) (h3:Seg w w.heap.size d x.hands.length 14 (handF x.hands)) (z3:d=none→x.hands.length=0∧r=0) (h4:Seg w w.heap.size e x.deals.length 7 (dealF x.deals)) (z4:e=none→x.deals.length=0∧s=0) (m1:x.ch.cells.length≤1099511627776) (m2:x.ch.words.length≤1099511627776) (m3:x.hands.length≤1099511627776) (m4:x.deals.length≤1099511627776) (hk:worldOk x=true) (ht:taskOk x who=true) (hm0:0≤most) (hm1:most≤20000) :
    Calls Try.prog 40 #[.agg #[.int .i64 x.ch.cap,.int .i64 x.ch.sent,.int .i64 x.ch.got,.int .i64 x.ch.fin,.slice a x.ch.cells.length p,.slice b x.ch.words.length q,.slice d x.hands.length r,.slice e x.deals.length s,.int .i64 x.now],.int .i64 who,.int .i64 most] w fun r w'=>WordR w w' (alone x who most).1 (.int .i64 (alone x who most).2) r:=by
  have H1:=Lib.hid h1
  have H2:=Lib.hid h2
  have H3:=Lib.hid h3
  have H4:=Lib.hid h4
  have Z1:=Lib.hid z1
  have Z2:=Lib.hid z2
  have Z3:=Lib.hid z3
  have Z4:=Lib.hid z4
  clear h1 h2 h3 h4 z1 z2 z3 z4
  obtain ⟨i,rfl⟩:∃ i:Nat,who=(i:Int):=⟨who.toNat,by simp [taskOk,taskB,inB] at ht;omega⟩
  have hi:i<x.hands.length:=by simp [taskOk,taskB,inB] at ht;omega
  obtain ⟨b3,o3,rfl,hb3,hc3⟩:∃ b o,d=some ⟨b,o,none⟩∧b<w.heap.size∧Hid (∀ i j,i<x.hands.length→j<14→w.cell? ⟨b,o+i*14+j,none⟩=some (handF x.hands i j)):=by
    rcases H3.out with h0|h0
    · omega
    · exact h0
  have hLd:∀ W:World,hp W b3=hp w b3→(LHand (.pointer (some ⟨b3,o3+i*14,none⟩))).run Try.prog W=.ok (.agg (hvals (handAt x i))) W:=fun W e=>ldHandE _ fun j hj=>by rw [show (hvals (handAt x i)).getD j (.int .i64 0)=handF x.hands i j by simp [handF,handAt],← hc3.out i j hi hj];exact World.cell?_of_block e
  have hi0:(0:Int)≤(i:Int):=by omega
  have hi1:(i:Int)<(x.hands.length:Int):=by omega
  have e0:alone x i most=((aloneN most.toNat x i).1,((aloneN most.toNat x i).2:Int)):=by simp [alone,hk,ht,inB_yes hm0 hm1]
  rw [e0]
  have ht2:taskB x.hands.length i=true:=ht
  have hn2:inB most 0 20000=true:=inB_yes hm0 hm1
  clear e0
  go_enter Try.func40,Try.ntmps40
  go_wp2_with fail;refine bHit w (by (repeat (with_reducible first|assumption|exact bR|refine bA ?_|refine bD ?_|((first|refine bS ?_ ?_|refine bBx ?_ ?_);rotate_left;focus (try simp) <;> (try omega))))) fun bb=>?_;refine (sWorldOk_any x a b _ e p q r s _ ((H1.out.below bb).more bb.size) ((H2.out.below bb).more bb.size) ((H3.out.below bb).more bb.size) ((H4.out.below bb).more bb.size) m3 m4).mono ?_;rintro _ w1 ⟨rfl,hbw1⟩;have hCw1:Below w.heap.size w w1:=bT bb hbw1;have hsw1:=hbw1.size;(try simp at hsw1);have zz:=And.intro (hpB hbw1 (b:=w.heap.size+1) (by (try simp) <;> omega)) <| hpB hbw1 (b:=w.heap.size) (by (try simp) <;> omega);(try simp [go_sem] at zz);(try clear z_wp x_wp f_wp l_wp);(try clear z_w x_w f_w l_w);obtain ⟨z_wp,z_w⟩:=zz;obtain ⟨x_wp,f_wp,l_wp⟩:=bO z_wp;obtain ⟨x_w,f_w,l_w⟩:=bO z_w;clear hbw1 bb
  rw [hk]
  go_wp2_with fail;refine bHit w (by (repeat (with_reducible first|assumption|exact bR|refine bA ?_|refine bD ?_|((first|refine bS ?_ ?_|refine bBx ?_ ?_);rotate_left;focus (try simp) <;> (try omega))))) fun bb=>?_;refine (l11Task_any x.ch x.hands.length x.now i _ _ _ _ _ _ _ _ _ _ _ m3 _).mono ?_;rintro _ w2 ⟨rfl,hbw2⟩;have hCw2:Below w.heap.size w w2:=bT bb hbw2;have hsw2:=hbw2.size;(try simp at hsw2);have zz:=And.intro (hpB hbw2 (b:=w.heap.size+1) (by (try simp) <;> omega)) <| hpB hbw2 (b:=w.heap.size) (by (try simp) <;> omega);(first|simp [go_sem,z_wp,z_w,l_w,l_wp] at zz|simp [go_sem] at zz|skip);(try clear z_wp x_wp f_wp l_wp);(try clear z_w x_w f_w l_w);obtain ⟨z_wp,z_w⟩:=zz;obtain ⟨x_wp,f_wp,l_wp⟩:=bO z_wp;obtain ⟨x_w,f_w,l_w⟩:=bO z_w;clear hbw2 bb
  rw [ht2]
  go_wp2_with fail;refine bHit w (by (repeat (with_reducible first|assumption|exact bR|refine bA ?_|refine bD ?_|((first|refine bS ?_ ?_|refine bBx ?_ ?_);rotate_left;focus (try simp) <;> (try omega))))) fun bb=>?_;refine (l11Copy_any x a b _ e p q r s _ ((H1.out.below bb).more bb.size) Z1.out ((H2.out.below bb).more bb.size) Z2.out ((H3.out.below bb).more bb.size) Z3.out ((H4.out.below bb).more bb.size) Z4.out m1 m2 m3 m4).mono ?_;rintro _ w3 ⟨⟨v1,v2,v3,v4,rfl,o1,o2,o3x,o4⟩,hbw3⟩;have hCw3:Below w.heap.size w w3:=bT bb hbw3;have hsw3:=hbw3.size;(try simp at hsw3);have zz:=And.intro (hpB hbw3 (b:=w.heap.size+1) (by (try simp) <;> omega)) <| hpB hbw3 (b:=w.heap.size) (by (try simp) <;> omega);(first|simp [go_sem,z_wp,z_w,l_w,l_wp] at zz|simp [go_sem] at zz|skip);(try clear z_wp x_wp f_wp l_wp);(try clear z_w x_w f_w l_w);obtain ⟨z_wp,z_w⟩:=zz;obtain ⟨x_wp,f_wp,l_wp⟩:=bO z_wp;obtain ⟨x_w,f_w,l_w⟩:=bO z_w;clear hbw3 bb
  try simp at o1 o2 o3x o4
  have O1:=Lib.hid o1
  have O2:=Lib.hid o2
  have O3:=Lib.hid o3x
  have O4:=Lib.hid o4
  obtain ⟨va,vc,rfl,_⟩:=OCells.seg o1
  obtain ⟨vb,vd,rfl,_⟩:=OInts.seg o2
  obtain ⟨vf,vg,rfl,_⟩:=OHands.seg o3x
  obtain ⟨vh,vi,rfl,_⟩:=ODeals.seg o4
  clear o1 o2 o3x o4
  have z3:hp w3 b3=hp w b3:=hCw3.block b3 hb3
  have lb3:b3<w3.heap.size:=by omega
  have nb3:b3≠w3.heap.size:=by omega
  have hr:=(rightW_iff x).1 hk
  go_wp2_with (go_at_call 49;refine (l11Now_any _ _).mono ?_;rintro _ _ ⟨rfl,rfl⟩)
  have hOW:WOwn w3 (w.heap.size+1+1) (.slice va x.ch.cells.length vc) (.slice vb x.ch.words.length vd) (.slice vf x.hands.length vg) (.slice vh x.deals.length vi) x:=WOwn.lo (lo:=w2.heap.size) ⟨O1.out,O2.out,O3.out,O4.out⟩ (by omega)
  clear O1 O2 O3 O4
  go_loopw [9] (fun n wr=>∃ (k:Nat) (y:Wo) (v1 v2 v3 v4:Value),k≤most.toNat∧n=.int .i64 k∧RightW y∧y.hands.length=x.hands.length∧aloneN most.toNat x i=((aloneN (most.toNat - k) y i).1,(aloneN (most.toNat - k) y i).2+k)∧WOwn wr (w.heap.size+1+1) v1 v2 v3 v4 y∧WOff w3.heap.size v1 v2 v3 v4∧hp wr w3.heap.size=some (.cells #[.int .i64 y.ch.cap,.int .i64 y.ch.sent,.int .i64 y.ch.got,.int .i64 y.ch.fin,v1,v2,v3,v4,.int .i64 y.now] 58)∧hp wr (w.heap.size+1)=some (.cells #[.int .i64 0,.int .i64 0,.int .i64 0,.int .i64 0,.slice none 0 0,.slice none 0 0,.slice none 0 0,.slice none 0 0,.int .i64 0] 58)∧w3.heap.size+1≤wr.heap.size∧Below w.heap.size w wr) (fun n _=>most.toNat - (intOf n).toNat)
  case atStart =>
    refine ⟨0,x,_,_,_,_,Nat.zero_le _,rfl,hr,rfl,by simp,WOwn.alloc hOW _,hOW.ne' (Nat.le_refl _),heap_alloc_new w3 _,?_,by simp,by (repeat (with_reducible first|assumption|exact bR|refine bA ?_|refine bD ?_|((first|refine bS ?_ ?_|refine bBx ?_ ?_);rotate_left;focus (try simp) <;> (try omega))))⟩
    simp [go_sem, *]
  case round =>
    obtain ⟨k,y,v1,v2,v3,v4,hkm,rfl,hy,hyl,hal,hown,hoff,z_w3,z_wp,hsz,hB⟩:=hrel
    obtain ⟨y1,y2,y3,y4⟩:=right_len hy
    have l_w:w.heap.size<wr.heap.size:=by omega
    have l_wp:w.heap.size+1<wr.heap.size:=by omega
    have l_w3:w3.heap.size<wr.heap.size:=by omega
    have x_wp:∀ o,wr.cell? ⟨w.heap.size+1,o,none⟩=_:=fun o=>cell_of_row wr (w.heap.size+1) o _ _ _ z_wp
    have f_wp:∀ o,wr.frozen? ⟨w.heap.size+1,o,none⟩=false:=heap_frozen z_wp
    have f_w3:∀ o,wr.frozen? ⟨w3.heap.size,o,none⟩=false:=heap_frozen z_w3
    have OW:=Lib.hid hown
    obtain ⟨a1,a2,a3,a4,c1,c2,c3,c4,rfl,rfl,rfl,rfl,s1,t1,s2,t2,s3,t3,s4,t4⟩:=hown.opens
    have x_w3:∀ o,wr.cell? ⟨w3.heap.size,o,none⟩=_:=fun o=>cell_of_row wr w3.heap.size o _ _ _ z_w3
    have OF:=Lib.hid hoff
    have hi2:i<y.hands.length:=by omega
    obtain ⟨g,gq,eg,_,lg,hgc,_⟩:=OHands.open1 hown.2.2.1 hi2
    simp at eg
    obtain ⟨rfl,rfl⟩:=eg
    have cpos:wr.cell? ⟨g,i*14,none⟩=some (.int .i64 (handAt y i).pos):=(hgc 0 (by omega)).trans (by simp [handAt,hvals,Array.getD])
    have hi1':(i:Int)<(y.hands.length:Int):=by omega
    have AL:=Lib.hid hal
    clear hal hown hoff hgc
    have S1:=Lib.hid s1
    have S2:=Lib.hid s2
    have S3:=Lib.hid s3
    have S4:=Lib.hid s4
    clear s1 s2 s3 s4
    have HL:=Lib.hid hyl
    clear hyl
    have N1:=OW.out.ne (b:=w.heap.size+1) (by omega)
    have OL:=OW.out.lo (lo':=w.heap.size) (by omega)
    by_cases hlt:k<most.toNat
    · have hk1:(k:Int)<most:=by omega
      by_cases hp0:(handAt y i).pos=0
      · have ea:aloneN most.toNat x i=(y,k):=by rw [AL.out,alone_rest hp0];simp
        go_wp2
        (try rw [ea])
        refine bodyPost_ret (v:=.tuple #[.agg #[.int .i64 y.ch.cap,.int .i64 y.ch.sent,.int .i64 y.ch.got,.int .i64 y.ch.fin,.slice a1 y.ch.cells.length c1,.slice a2 y.ch.words.length c2,.slice (some ⟨g,0,none⟩) y.hands.length c3,.slice a4 y.deals.length c4,.int .i64 y.now],.int .i64 k]) (by simp [results,Try.results40,go_sem, *]) rfl ⟨⟨_,_,_,_,rfl,?_⟩,by (repeat (with_reducible first|assumption|exact bR|refine bA ?_|refine bD ?_|((first|refine bS ?_ ?_|refine bBx ?_ ?_);rotate_left;focus (try simp) <;> (try omega))))⟩
        (repeat (first|with_reducible assumption|with_reducible refine WOwn.alloc ?_ _|with_reducible refine WOwn.drew ?_|((with_reducible refine WOwn.store ?_ ?_ _);rotate_left;(focus (first|exact N1))) ))
      · have hY:=l11Step_any y i a1 a2 (some ⟨g,0,none⟩) a4 c1 c2 c3 c4 wr S1.out t1 S2.out t2 S3.out t3 S4.out t4 y1 y2 y3 y4 (by unfold taskOk;rw [HL.out];exact ht2) ⟨hy.n0,hy.n1⟩
        cases hs:(step11 y i).2 with
        | false =>
          rw [hs] at hY
          have ea:aloneN most.toNat x i=(y,k):=by rw [AL.out,alone_stuck hs];simp
          have EA:=Lib.hid ea
          clear ea hs
          go_wp2_with fail;refine bHit w (by (repeat (with_reducible first|assumption|exact bR|refine bA ?_|refine bD ?_|((first|refine bS ?_ ?_|refine bBx ?_ ?_);rotate_left;focus (try simp) <;> (try omega))))) fun bb=>?_;refine bHit wr (by (repeat (with_reducible first|assumption|exact bR|refine bA ?_|refine bD ?_|((first|refine bS ?_ ?_|refine bBx ?_ ?_);rotate_left;focus (try simp) <;> (try omega))))) fun bk=>?_;refine (hY).mono ?_;rintro _ w5 ⟨⟨u1,u2,u3,u4,rfl,uo⟩,hbw5⟩;have hCw5:Below w.heap.size w w5:=bT bb hbw5;have hsw5:=hbw5.size;(try simp at hsw5);have zz:=And.intro (hpB hbw5 (b:=w3.heap.size) (by (try simp) <;> omega)) <| hpB hbw5 (b:=w.heap.size+1) (by (try simp) <;> omega);(first|simp [go_sem,z_w3,z_wp,l_w,l_w3,l_wp] at zz|simp [go_sem] at zz|skip);(try clear z_w3 x_w3 f_w3 l_w3);(try clear z_wp x_wp f_wp l_wp);obtain ⟨z_w3,z_wp⟩:=zz;obtain ⟨x_w3,f_w3,l_w3⟩:=bO z_w3;obtain ⟨x_wp,f_wp,l_wp⟩:=bO z_wp;have hKw5:Below wr.heap.size wr w5:=bT bk hbw5;clear hbw5 bb bk
          have OL5:=OL.below hKw5
          obtain ⟨b1,b2,b3',b4,d1,d2,d3,d4,rfl,rfl,rfl,rfl,_⟩:=uo.opens
          go_wp2
          rw [EA.out]
          refine bodyPost_ret (v:=.tuple #[.agg #[.int .i64 y.ch.cap,.int .i64 y.ch.sent,.int .i64 y.ch.got,.int .i64 y.ch.fin,.slice a1 y.ch.cells.length c1,.slice a2 y.ch.words.length c2,.slice (some ⟨g,0,none⟩) y.hands.length c3,.slice a4 y.deals.length c4,.int .i64 y.now],.int .i64 k]) (by simp [results,Try.results40,go_sem, *]) rfl ⟨⟨_,_,_,_,rfl,?_⟩,by (repeat (with_reducible first|assumption|exact bR|refine bA ?_|refine bD ?_|((first|refine bS ?_ ?_|refine bBx ?_ ?_);rotate_left;focus (try simp) <;> (try omega))))⟩
          (repeat (first|with_reducible assumption|with_reducible refine WOwn.alloc ?_ _|with_reducible refine WOwn.drew ?_|((with_reducible refine WOwn.store ?_ ?_ _);rotate_left;(focus (first|exact N1))) ))
        | true =>
          obtain ⟨r1,r2,_,_,_⟩:=step_right hy (by unfold taskOk;rw [HL.out];exact ht2) hs
          rw [hs] at hY
          obtain ⟨m,hm⟩:∃ m,most.toNat - k=m+1:=⟨most.toNat - k - 1,by omega⟩
          have hm2:most.toNat - (k+1)=m:=by omega
          have ea:aloneN most.toNat x i=((aloneN (most.toNat - (k+1)) (step11 y i).1 i).1,(aloneN (most.toNat - (k+1)) (step11 y i).1 i).2+(k+1)):=by
            rw [AL.out,hm,hm2,alone_next hp0 hs]
            simp
            omega
          have EA:=Lib.hid ea
          have R2:=Lib.hid (r2.trans HL.out)
          generalize (step11 y i).1=y' at *
          clear ea hs hm hm2 r2
          go_wp2_with fail;refine bHit w (by (repeat (with_reducible first|assumption|exact bR|refine bA ?_|refine bD ?_|((first|refine bS ?_ ?_|refine bBx ?_ ?_);rotate_left;focus (try simp) <;> (try omega))))) fun bb=>?_;refine bHit wr (by (repeat (with_reducible first|assumption|exact bR|refine bA ?_|refine bD ?_|((first|refine bS ?_ ?_|refine bBx ?_ ?_);rotate_left;focus (try simp) <;> (try omega))))) fun bk=>?_;refine (hY).mono ?_;rintro _ w5 ⟨⟨u1,u2,u3,u4,rfl,uo⟩,hbw5⟩;have hCw5:Below w.heap.size w w5:=bT bb hbw5;have hsw5:=hbw5.size;(try simp at hsw5);have zz:=And.intro (hpB hbw5 (b:=w3.heap.size) (by (try simp) <;> omega)) <| hpB hbw5 (b:=w.heap.size+1) (by (try simp) <;> omega);(first|simp [go_sem,z_w3,z_wp,l_w,l_w3,l_wp] at zz|simp [go_sem] at zz|skip);(try clear z_w3 x_w3 f_w3 l_w3);(try clear z_wp x_wp f_wp l_wp);obtain ⟨z_w3,z_wp⟩:=zz;obtain ⟨x_w3,f_w3,l_w3⟩:=bO z_w3;obtain ⟨x_wp,f_wp,l_wp⟩:=bO z_wp;have hKw5:Below wr.heap.size wr w5:=bT bk hbw5;clear hbw5 bb bk
          have UO:=Lib.hid uo
          obtain ⟨b1,b2,b3',b4,d1,d2,d3,d4,rfl,rfl,rfl,rfl,_⟩:=uo.opens
          have nu3:=UO.out.ne (b:=w3.heap.size) (by omega)
          have nu5:=UO.out.ne' (b:=w5.heap.size) (by omega)
          have UL:=UO.out.lo (lo':=w.heap.size+1+1) (by omega)
          go_wp2
          go_roundw
          case rel=>exact ⟨k+1,y',_,_,_,_,by omega,by go_num,r1,R2.out,EA.out,by (repeat (first|with_reducible assumption|with_reducible refine WOwn.alloc ?_ _|with_reducible refine WOwn.drew ?_|((with_reducible refine WOwn.store ?_ ?_ _);rotate_left;(focus (first|exact nu3|exact nu5))) )),nu3,by simp [go_sem, *],by simp [go_sem, *],by simp;omega,by (repeat (with_reducible first|assumption|exact bR|refine bA ?_|refine bD ?_|((first|refine bS ?_ ?_|refine bBx ?_ ?_);rotate_left;focus (try simp) <;> (try omega))))⟩
          case measure=>simp [intOf];omega
    · have hk1:¬ (k:Int)<most:=by omega
      have ea:aloneN most.toNat x i=(y,k):=by
        have e0:most.toNat - k=0:=by omega
        rw [AL.out,e0]
        simp [aloneN]
      go_wp2
      (try rw [ea])
      refine bodyPost_ret (v:=.tuple #[.agg #[.int .i64 y.ch.cap,.int .i64 y.ch.sent,.int .i64 y.ch.got,.int .i64 y.ch.fin,.slice a1 y.ch.cells.length c1,.slice a2 y.ch.words.length c2,.slice (some ⟨g,0,none⟩) y.hands.length c3,.slice a4 y.deals.length c4,.int .i64 y.now],.int .i64 k]) (by simp [results,Try.results40,go_sem, *]) rfl ⟨⟨_,_,_,_,rfl,?_⟩,by (repeat (with_reducible first|assumption|exact bR|refine bA ?_|refine bD ?_|((first|refine bS ?_ ?_|refine bBx ?_ ?_);rotate_left;focus (try simp) <;> (try omega))))⟩
      (repeat (first|with_reducible assumption|with_reducible refine WOwn.alloc ?_ _|with_reducible refine WOwn.drew ?_|((with_reducible refine WOwn.store ?_ ?_ _);rotate_left;(focus (first|exact N1))) ))
end Go.Proofs.Ytlfcgeoifmnjnaa
set_option linter.unusedSimpArgs false
set_option linter.unusedVariables false
namespace Go.Proofs.Ytlfcgeoifmnjnaa
open Go.RowKit
set_option maxHeartbeats 400000 in
theorem l1New_any (B n cap:Nat) (a:Option Addr) (bs:Nat→Int) (w:World) (hB:B≤w.heap.size) (hn:n≤4096) (hbs:∀ j,0≤bs j∧bs j≤255) (h:Seg w B a n 1 (fun j _=>.int .u8 (bs j))) :
    Calls Try.prog 14 #[.slice a n cap] w fun r w'=>∃ g,r=.returned (.pointer (some ⟨g,0,none⟩))∧DS w' B g∧w.heap.size≤g∧Below w.heap.size w w':=by
  have HS:=Lib.hid h
  have HB:=Lib.hid hbs
  clear h hbs
  go_enter Try.func14,Try.ntmps14
  go_wp2
  go_loop [3,4] (fun h i=>∃ (H:Int) (k:Nat),k≤n∧i=.int .i64 k∧h=.int .i64 H) (fun _ i=>n - (intOf i).toNat)
  case atStart=>exact ⟨_,0,Nat.zero_le _,rfl,rfl⟩
  case round =>
    obtain ⟨H,k,hk,rfl,rfl⟩:=hrel
    by_cases hlt:k<n
    · obtain h0|⟨b,o,rfl,hb,hc⟩:=HS.out
      · omega
      have cb:=hc k 0 hlt (by omega)
      have hbb:=HB.out k
      simp only [Nat.add_zero,Nat.mul_one] at cb
      clear hc
      generalize bs k=y at cb hbb
      obtain ⟨hy0,hy1⟩:=hbb
      go_wp2
      go_round
      case rel=>exact ⟨_,k+1,by omega,by go_num,rfl⟩
      case measure=>simp [intOf];omega
    · have:k=n:=by omega
      subst this
      go_wp2
      go_ret
      exact ⟨_,rfl,⟨a,k,cap,0,_,bs,heap_alloc_new w _,by omega,hn,hB,HB.out,HS.out.below ((Below.refl _ _).alloc hB _)⟩,Nat.le_refl _,(Below.refl _ _).alloc (Nat.le_refl _) _⟩
def SomeC (r:Ending):Prop:=∃ s e t:Int,r=.returned (.agg #[.int .i64 s,.int .i64 e,.int .i64 t])
def byteF (bs:Nat→Int) (i _j:Nat):Value:=.int .u8 (bs i)
/-- What the laws are handed: at most 4096 bytes. -/
structure Code (w:World) (B:Nat) (a:Option Addr) (n:Nat) (bs:Nat→Int):Prop where
  len:n≤4096
  bd:∀ j,0≤bs j∧bs j≤255
  seg:Seg w B a n 1 (fun j _=>.int .u8 (bs j))
theorem Code.below {w w':World} {B n:Nat} {a:Option Addr} {bs:Nat→Int} (h:Code w B a n bs) (k:Below B w w'):Code w' B a n bs:=⟨h.len,h.bd,h.seg.below k⟩
theorem Code.more {w:World} {B B' n:Nat} {a:Option Addr} {bs:Nat→Int} (h:Code w B a n bs) (k:B≤B'):Code w B' a n bs:=⟨h.len,h.bd,h.seg.more k⟩
theorem new_any (B n cap:Nat) (a:Option Addr) (bs:Nat→Int) (w:World) (h:Code w B a n bs) (hB:B≤w.heap.size) :
    Calls Try.prog 14 #[.slice a n cap] w fun r w'=>∃ g,r=.returned (.pointer (some ⟨g,0,none⟩))∧DS w' B g∧w.heap.size≤g∧Below w.heap.size w w' :=
  l1New_any B n cap a bs w hB h.len h.bd h.seg
end Go.Proofs.Ytlfcgeoifmnjnaa
