/-
  Are all tasks of a world at rest, of the reference model; lists lie in memory and hold at most 2 ^ 40 elements.
-/
import Derived.Test.YtffhjmepfojhnaaGreatR02
import Derived.Test.YtffhjmepfojhnaaGreatR34
import Derived.Test.YtffhjmepfojhnaaGreatR40
import Derived.Test.YtffhjmepfojhnaaGreatR01
import Derived.Test.YtffhjmepfojhnaaGreatR04
import Derived.Test.YtffhjmepfojhnaaGreatR35
import Derived.Test.YtffhjmepfojhnaaGreatR07
import Derived.Test.YtffhjmepfojhnaaGreatR38
set_option maxRecDepth 100000
set_option maxHeartbeats 400000
set_option linter.unusedSimpArgs false
set_option linter.unusedVariables false
namespace Go.Proofs.YtffhjmepfojhnaaGreat
section
open Go.RowKit
attribute [local simp] aC
attribute [local go_sem ↓] aB aU aL bB aM bC aG aN au aF
end
section
open Go.RowKit
attribute [local simp] aC
attribute [local go_sem ↓] aB aL aM fe au
attribute [local go_sem] eB
end
section
open Go.RowKit
attribute [local simp] aC
theorem EP {x:Wo} (h:EB x):lJ x:=by
 obtain ⟨y1,y2,y3,y4⟩:=Ip h
 have TJ:=(qi h.ch).1
 have hw:=(qi h.ch).2
 exact ⟨by omega,by omega,by have:=h.h6;omega,by have:=h.d;omega⟩
theorem N8 {w w':World} {B n k r:Nat} {a:Option Addr} {f:Nat→Nat→Value} (h:Seg w B a n k f) (hB:B≤w.heap.size) (hg:w.grownBy w' (some r)) (hr:(∀ ad,a=some ad→r<ad.block)∨B≤r):Seg w' B a n k f:=by
 rcases h with h|⟨b,o,rfl,hb,hc⟩
 ·exact .inl h
 ·have ne:some b≠some r:=by
   rcases hr with hr|hr
   ·have:=hr _ rfl;simp at this ⊢;omega
   ·simp;omega
  exact .inr ⟨b,o,rfl,hb,fun i j hi hj=>(World.cell?_of_block (hg.block b tO ne)).trans (hc i j hi hj)⟩
theorem qR {w w':World} {B r lo:Nat} {x:Wo} {a b d e:Option Addr} (h:iG w B x a b d e) (hB:B≤w.heap.size) (hg:w.grownBy w' (some r)) (i1:Hi lo a) (i2:Hi lo b) (i3:Hi lo d) (i4:Hi lo e) (hr:r<lo∨B≤r):iG w' B x a b d e:=by
 have f:∀ {a:Option Addr},Hi lo a→(∀ ad,a=some ad→r<ad.block)∨B≤r:=fun i=>hr.imp (fun h ad e=>by have:=i ad e;omega) id
 exact ⟨N8 h.1 hB hg (f i1),N8 h.2.1 hB hg (f i2),N8 h.2.2.1 hB hg (f i3),N8 h.2.2.2 hB hg (f i4)⟩
theorem pM {w w':World} {B:Nat} {x:Wo} {a b d e:Option Addr} (h:iG w B x a b d e) (hB:B≤w.heap.size) (hg:Below w.heap.size w w'):iG w' B x a b d e:=⟨h.1.below (hg.mono hB),h.2.1.below (hg.mono hB),h.2.2.1.below (hg.mono hB),h.2.2.2.below (hg.mono hB)⟩
theorem jS {w:World} {B:Nat} {x:Wo} {a b d e:Option Addr} (h:iG w B x a b d e) (hB:B≤w.heap.size):iG w w.heap.size x a b d e:=⟨h.1.more hB,h.2.1.more hB,h.2.2.1.more hB,h.2.2.2.more hB⟩
end
section
open Go.RowKit
theorem FQ (n cap:Nat) (a:Option Addr) (w:World):Calls Tryz.prog 9 #[.slice a n cap] w fun r w'=>r=.returned (.bool (decide (4096<(n:Int))))∧w=w':=by
 go_enter Tryz.func9,Tryz.ntmps9
 go_wp2
 go_ret
 exact ⟨rfl,rfl⟩
end
section
open Go.RowKit
theorem qU (X m:Int) (h0:0≤m) (h1:m<2147483648):0≤bits .and .u64 X m∧bits .and .u64 X m≤m:=by
 obtain ⟨k,rfl⟩:=Int.eq_ofNat_of_zero_le h0
 have hk:(BitVec.ofInt 64 (k:Int)).toNat=k:=by
  rw [BitVec.toNat_ofInt];simp;omega
 have hle:(BitVec.ofInt 64 X &&& BitVec.ofInt 64 (k:Int)).toNat≤k:=by
  rw [BitVec.toNat_and,hk];exact Nat.and_le_right
 have e:bits .and .u64 X (k:Int)=((BitVec.ofInt 64 X &&& BitVec.ofInt 64 (k:Int)).toNat:Int):=by
  show IntKind.u64.wrap ((BitVec.ofInt 64 X &&& BitVec.ofInt 64 (k:Int)).toNat:Int)=_
  generalize (BitVec.ofInt 64 X &&& BitVec.ofInt 64 (k:Int)).toNat=z at hle
  simp [IntKind.wrap,IntKind.signed,IntKind.bits]
  omega
 rw [e];omega
def DI (w:World) (B g:Nat):Prop:=∃ (a:Option Addr) (n cap i:Nat) (h:Int) (bs:Nat→Int),
 w.heap[g]?=some (.cells #[.slice a n cap,.int .i64 i,.int .u64 h] 75 (0,0))∧i≤n∧n≤4096∧B≤g∧(∀ j,0≤bs j∧bs j≤255)∧Seg w B a n 1 (fun j _=>.int .u8 (bs j))
theorem DI.le {w:World} {B g:Nat} (h:DI w B g):B≤g:=by
 obtain ⟨a,n,cap,i,h,bs,hg,_,_,hB,_⟩:=h
 exact hB
theorem Lb (n cap:Nat) (a:Option Addr) (bs:Nat→Int) (seed:Int) (w:World) (h:Code w w.heap.size a n bs) :
  Calls Tryz.prog 10 #[.slice a n cap,.int .u64 seed] w fun r w'=>∃ g,r=.returned (.pointer (some ⟨g,0,none⟩))∧DI w' w.heap.size g∧Below w.heap.size w w':=by
 have hn:=h.len
 have HB:=Lib.hid h.bd
 have HS:=Lib.hid h.seg
 clear h
 go_enter Tryz.func10,Tryz.ntmps10
 go_wp2
 go_loopw [6] (fun i wr=>∃ (k:Nat) (H:Int),k≤n∧i=.int .i64 k∧wr.heap[w.heap.size]?=some (.cells #[.slice a n cap,.int .i64 0,.int .u64 H] 75 (0,0))∧Below w.heap.size w wr) (fun i _=>n - (intOf i).toNat)
 case atStart=>exact ⟨0,_,Nat.zero_le _,rfl,heap_alloc_new w _,(Below.refl _ _).alloc (Nat.le_refl _) _⟩
 case round =>
  obtain ⟨k,H,hk,rfl,hg,hbel⟩:=hrel
  have hs:=hbel.size
  have WI:w.heap.size<wr.heap.size:=(Array.getElem?_eq_some_iff.1 hg).1
  by_cases hlt:k<n
  ·obtain h0|⟨b,o,rfl,hb,hc⟩:=HS.out
   ·omega
   have cb:=(hbel.cell (p:=⟨b,o+k*1+0,none⟩) hb).trans (hc k 0 hlt tO)
   have hbb:=HB.out k
   simp only [Nat.add_zero,Nat.mul_one] at cb
   clear hc
   generalize bs k=y at cb hbb
   obtain ⟨hy0,hy1⟩:=hbb
   have c0:=cell_of_row wr w.heap.size 0 _ _ _ hg
   have c2:=cell_of_row wr w.heap.size 2 _ _ _ hg
   have f0:=o9 hg
   simp at c0 c2
   have hk1:(k:Int)<(n:Int):=by omega
   have HG:=Lib.hid hg
   clear hg
   go_wp2
   go_still_tail 15,(by kernel_rfl)
   go_wp2
   go_roundw
   case rel=>exact ⟨k+1,_,by omega,by go_num,KP (n:=1) (by simpa using jo HG.out 2 _),by exact zB⟩
   case measure=>simp [intOf];omega
  ·have:k=n:=by omega
   subst this
   go_wp2
   go_ret
   exact ⟨_,rfl,⟨a,k,cap,0,H,bs,hg,by omega,hn,Nat.le_refl _,HB.out,HS.out.below hbel⟩,hbel⟩
theorem ER (B g n cap i:Nat) (a:Option Addr) (h m:Int) (bs:Nat→Int) (w:World)
  (hg:w.heap[g]?=some (.cells #[.slice a n cap,.int .i64 i,.int .u64 h] 75 (0,0))) (hi:i≤n) (hn:n≤4096) (hB:B≤g) (hbs:∀ j,0≤bs j∧bs j≤255) (HS:Hid (Seg w B a n 1 (fun j _=>.int .u8 (bs j)))) (hm:0<m) (hm2:m≤1000000) :
  Calls Tryz.prog 11 #[.pointer (some ⟨g,0,none⟩),.int .i64 m] w fun r w'=>KQ (m - 1) r∧DI w' B g∧Gr g w w':=by
 have c0:=cell_of_row w g 0 _ _ _ hg
 have c1:=cell_of_row w g 1 _ _ _ hg
 have c2:=cell_of_row w g 2 _ _ _ hg
 have f0:=o9 hg
 have hlt:g<w.heap.size:=(Array.getElem?_eq_some_iff.1 hg).1
 simp at c0 c1 c2
 have HG:=Lib.hid hg
 have HB:=Lib.hid hbs
 clear hg hbs
 by_cases hin:i<n
 ·obtain h0|⟨b,o,rfl,hb,hc⟩:=HS.out
  ·omega
  have cb:=hc i 0 hin tO
  have hbb:=HB.out i
  simp only [Nat.add_zero,Nat.mul_one] at cb
  clear hc
  generalize bs i=y at cb hbb
  obtain ⟨hy0,hy1⟩:=hbb
  have hbg:b≠g:=by omega
  have hgb:¬ g=b:=by omega
  have hi0:(0:Int)≤(i:Int):=by omega
  have hi1:(i:Int)<(n:Int):=by omega
  go_enter Tryz.func11,Tryz.ntmps11
  go_wp2
  generalize IntKind.u64.wrap (IntKind.u64.wrap (h*6364136223846793005)+1442695040888963407)=H
  have hx:=qU (H / 8589934592) 16777215 tO tO
  generalize bits BinOp.and IntKind.u64 (H / 8589934592) 16777215=x at hx
  obtain ⟨hx0,hx1⟩:=hx
  have hw:wrap64 x=x:=IntWalk.wrap64_in _ tO
  rw [hw]
  clear hw
  go_quiet (fail)
  go_wp2
  go_quiet (fail)
  go_wp2
  go_ret
  exact ⟨⟨_,rfl,(sM _ hm).1,(sM _ hm).2⟩,⟨_,n,cap,i+1,H,bs,by simpa using jo (KP (jo HG.out 2 _)) 1 _,by omega,hn,hB,HB.out,HS.out.below (by repeat (first|exact Below.refl _ _|refine Below.setCell ?_ hB _|refine Tt ?_ _))⟩,by repeat (first|exact gR _ _|refine gS ?_ (.inl rfl)|refine Tq ?_ _)⟩
 ·have hin2:¬ (i:Int)<(n:Int):=by omega
  go_enter Tryz.func11,Tryz.ntmps11
  go_wp2
  generalize IntKind.u64.wrap (IntKind.u64.wrap (h*6364136223846793005)+1442695040888963407)=H
  have hx:=qU (H / 8589934592) 16777215 tO tO
  generalize bits BinOp.and IntKind.u64 (H / 8589934592) 16777215=x at hx
  obtain ⟨hx0,hx1⟩:=hx
  have hw:wrap64 x=x:=IntWalk.wrap64_in _ tO
  rw [hw]
  clear hw
  go_quiet (fail)
  go_wp2
  go_ret
  exact ⟨⟨_,rfl,(sM _ hm).1,(sM _ hm).2⟩,⟨a,n,cap,i,H,bs,by simpa using jo HG.out 2 _,hi,hn,hB,HB.out,HS.out.below (Tt ((Below.refl _ _).setCell hB _) _)⟩,Tq (gS (gR _ _) (.inl rfl)) _⟩
theorem I8 (B g:Nat) (m:Int) (w:World) (h:DI w B g) (hm:0<m) (hm2:m≤1000000):Calls Tryz.prog 11 #[.pointer (some ⟨g,0,none⟩),.int .i64 m] w fun r w'=>KQ (m - 1) r∧DI w' B g∧Gr g w w':=by
 obtain ⟨a,n,cap,i,h,bs,hg,h1,h2,h3,h4,h5⟩:=h
 exact ER B g n cap i a h m bs w hg h1 h2 h3 h4 (Lib.hid h5) hm hm2
end
section
end
end Go.Proofs.YtffhjmepfojhnaaGreat
