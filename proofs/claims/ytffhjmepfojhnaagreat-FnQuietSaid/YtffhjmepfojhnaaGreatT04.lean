/-
  The contracts of the reference model's Laid and Turned; no condition.
-/
import Derived.Test.YtffhjmepfojhnaaGreatT01
import Derived.Laws.StructEq
import Derived.IntWalk
set_option maxHeartbeats 1000000
set_option linter.unusedSimpArgs false
set_option linter.unusedVariables false
namespace Go.Proofs.YtffhjmepfojhnaaGreat
open _root_.Go.Proofs.Tryz
section
open Go.RowKit
theorem LP (s e t m:Int) (w:World):Calls prog 199 #[.agg #[.int .i64 s,.int .i64 e,.int .i64 t],.int .i64 m] w fun r w'=>r=.returned (.agg #[.int .i64 s,.int .i64 (nS s e t m),.int .i64 t])∧Below w w w':=by
 go_enter func199,ntmps199
 go_wp2_with (first|(go_at_call 162;refine (nV _ _ _ _).mono ?_;rintro _ G ⟨rfl,F⟩;have I:Below w w G:=bT zB F;have H:=F.size;(try (simp at H));have:=fun o=>F.cell (p:=⟨w,o,none⟩) fK;have:=fun o=>F.frozen (p:=⟨w,o,none⟩) fK;have:=fun o=>F.cell (p:=⟨w+1,o,none⟩) fK;have:=fun o=>F.frozen (p:=⟨w+1,o,none⟩) fK;have:w<G.heap.size:=tO;have:w≤G.heap.size:=tO;have:w≤G.heap.size+1:=tO;have:w+1<G.heap.size:=tO;have:w+1≤G.heap.size:=tO;have:w+1≤G.heap.size+1:=tO)|(go_at_call 122;refine (p8 _ _).mono ?_;rintro _ _ ⟨rfl,rfl⟩))
 ·rw [QX ‹_›];exact bodyPost_ret (v:=.agg #[.int .i64 s,.int .i64 e,.int .i64 t]) (by simp [results,results199,go_sem, *]) rfl ⟨rfl,zB⟩
 ·rw [QZ ‹_› ‹_›];exact bodyPost_ret (v:=.agg #[.int .i64 s,.int .i64 m,.int .i64 t]) (by simp [results,results199,go_sem, *]) rfl ⟨rfl,zB⟩
 ·rw [QW ‹_›];exact bodyPost_ret (v:=.agg #[.int .i64 s,.int .i64 e,.int .i64 t]) (by simp [results,results199,go_sem, *]) rfl ⟨rfl,zB⟩
theorem FL (s e t f n v:Int) (w:World):Calls prog 216 #[.agg #[.int .i64 s,.int .i64 e,.int .i64 t],.int .i64 f,.int .i64 n,.int .i64 v] w fun r w'=>yA s e t f n v r∧Below w w w':=by
 by_cases J:s=f
 ·subst J
  go_enter func216,ntmps216
  go_wp2_with (go_at_call 162;refine (nV _ _ _ _).mono ?_;rintro _ G ⟨rfl,F⟩;have I:Below w w G:=bT zB F;have H:=F.size;(try (simp at H));have:=fun o=>F.cell (p:=⟨w,o,none⟩) fK;have:=fun o=>F.frozen (p:=⟨w,o,none⟩) fK;have:=fun o=>F.cell (p:=⟨w+1,o,none⟩) fK;have:=fun o=>F.frozen (p:=⟨w+1,o,none⟩) fK;have:=fun o=>F.cell (p:=⟨w+1+1,o,none⟩) fK;have:=fun o=>F.frozen (p:=⟨w+1+1,o,none⟩) fK;have:w<G.heap.size:=tO;have:w≤G.heap.size:=tO;have:w≤G.heap.size+1:=tO;have:w+1<G.heap.size:=tO;have:w+1≤G.heap.size:=tO;have:w+1≤G.heap.size+1:=tO;have:w+1+1<G.heap.size:=tO;have:w+1+1≤G.heap.size:=tO;have:w+1+1≤G.heap.size+1:=tO)
  all_goals first
   | (refine bodyPost_ret (v:=.tuple #[.agg #[.int .i64 n,.int .i64 e,.int .i64 v],.bool true]) (by simp [results,results216,go_sem, *]) rfl ⟨CQ (Oy ‹_› ‹_›),zB⟩)
   | (refine bodyPost_ret (v:=.tuple #[.agg #[.int .i64 s,.int .i64 e,.int .i64 t],.bool false]) (by simp [results,results216,go_sem, *]) rfl ⟨wW (by first|exact D7 ‹_›|exact Ox ‹_›),zB⟩)
 ·go_enter func216,ntmps216
  go_wp2_with (go_at_call 162;refine (nV _ _ _ _).mono ?_;rintro _ G ⟨rfl,F⟩;have I:Below w w G:=bT zB F;have H:=F.size;(try (simp at H));have:=fun o=>F.cell (p:=⟨w,o,none⟩) fK;have:=fun o=>F.frozen (p:=⟨w,o,none⟩) fK;have:=fun o=>F.cell (p:=⟨w+1,o,none⟩) fK;have:=fun o=>F.frozen (p:=⟨w+1,o,none⟩) fK;have:=fun o=>F.cell (p:=⟨w+1+1,o,none⟩) fK;have:=fun o=>F.frozen (p:=⟨w+1+1,o,none⟩) fK;have:w<G.heap.size:=tO;have:w≤G.heap.size:=tO;have:w≤G.heap.size+1:=tO;have:w+1<G.heap.size:=tO;have:w+1≤G.heap.size:=tO;have:w+1≤G.heap.size+1:=tO;have:w+1+1<G.heap.size:=tO;have:w+1+1≤G.heap.size:=tO;have:w+1+1≤G.heap.size+1:=tO)
  all_goals (refine bodyPost_ret (v:=.tuple #[.agg #[.int .i64 s,.int .i64 e,.int .i64 t],.bool false]) (by simp [results,results216,go_sem, *]) rfl ⟨wW (by first|exact Ow ‹_›|exact D7 ‹_›),zB⟩)
def vV (a b:Ha):Bool:=a.pos == b.pos && ((a.code == b.code && a.elem == b.elem) && (a.cell == b.cell && (a.seen == b.seen && (a.wait == b.wait && (a.fin == b.fin && (a.come == b.come && (a.grow == b.grow && (a.mine == b.mine && (a.nxt == b.nxt && (a.beg == b.beg && (a.reply == b.reply && a.out == b.out)))))))))))
theorem FM (a b:Ha):vV a b=true↔a=b:=by
 obtain ⟨R,T,U,V,X,Y,Z,a8,a9,F,G,H,I,J⟩:=a;obtain ⟨b1,b2,b3,b4,b5,b6,b7,b8,b9,K,L,M,N,O⟩:=b;simp [vV,and_assoc]
theorem LQ (a:Ha):vV a a=true:=(FM a a).2 rfl
theorem RX (a b c d:Int) (n:Nat) (w:World):(Op.equalIn (n+1+1) 41 (.agg #[.int .i64 a,.int .i64 b]) (.agg #[.int .i64 c,.int .i64 d])).run prog w=.ok (a == c && b == d) w:=by
 have u3:=underlying2;have G:=Tryz.isAgg2;have H:=Tryz.sizeOf2;have F:Tryz.prog.underlying 41=some (.struct (Tryz.prog.fieldsOf 41)):=by kernel_rfl
 rw [run_equalIn_agg w (n+1) 41 _ _ F bH];simp only [Program.fieldsOf,underlying41];go_simp;by_cases h1:a=c <;> by_cases h2:b=d <;> simp [h1,h2]
theorem Dz (x y:Ha) (w:World):(Op.equalIn 10000 49 (.agg (aB x)) (.agg (aB y))).run prog w=.ok (vV x y) w:=by
 have u3:=underlying2;have T:=Tryz.isAgg2;have V:=Tryz.sizeOf2;have U:=Tryz.isAgg41;have X:=Tryz.sizeOf41;have R:Tryz.prog.underlying 49=some (.struct (Tryz.prog.fieldsOf 49)):=by kernel_rfl
 rw [show (10000:Nat)=9998+1+1 from rfl,run_equalIn_agg w (9998+1) 49 _ _ R bH];simp only [Program.fieldsOf,underlying49];simp [aB,Op.eqFields,go_sem,RX,vV, *];by_cases J:x.pos=y.pos <;> simp [J]
 by_cases h1:x.code=y.code <;> simp [h1]
 by_cases h2:x.elem=y.elem <;> simp [h2]
 by_cases h3:x.cell=y.cell <;> simp [h3]
 by_cases K:x.seen=y.seen <;> simp [K]
 by_cases L:x.wait=y.wait <;> simp [L]
 by_cases h6:x.fin=y.fin <;> simp [h6]
 by_cases M:x.come=y.come <;> simp [M]
 by_cases N:x.grow=y.grow <;> simp [N]
 by_cases O:x.mine=y.mine <;> simp [O]
 by_cases F:x.nxt=y.nxt <;> simp [F]
 by_cases G:x.beg=y.beg <;> simp [G]
 by_cases H:x.reply=y.reply <;> simp [H]
 by_cases I:x.out=y.out <;> simp [I]
theorem IU {w:World} {g n:Nat} {x:Option Obj} (h:w.heap[g]?=x):(w.drewN n).heap[g]?=x:=h
theorem pV (X m:Int) (F:0≤m) (h1:m<2147483648):0≤bits .and .i64 X m∧bits .and .i64 X m≤m:=by
 obtain ⟨k,rfl⟩:=Int.eq_ofNat_of_zero_le F;have G:(BitVec.ofInt 64 (k:Int)).toNat=k:=by
  rw [BitVec.toNat_ofInt];simp;omega
 have H:(BitVec.ofInt 64 X &&& BitVec.ofInt 64 (k:Int)).toNat≤k:=by
  rw [BitVec.toNat_and,G];exact Nat.and_le_right
 have e:bits .and .i64 X (k:Int)=((BitVec.ofInt 64 X &&& BitVec.ofInt 64 (k:Int)).toNat:Int):=by
  show IntKind.i64.wrap ((BitVec.ofInt 64 X &&& BitVec.ofInt 64 (k:Int)).toNat:Int)=_;refine IntWalk.i64_in _ ?_;omega
 rw [e];omega
def DS (w:World) (B g:Nat):Prop:=∃ (a:Option Addr) (n cap i:Nat) (h:Int) (bs:Nat→Int),
 w.heap[g]?=some (.cells #[.slice a n cap,.int .i64 i,.int .i64 h] 147 (0,0))∧i≤n∧n≤4096∧B≤g∧(∀ j,0≤bs j∧bs j≤255)∧Seg w B a n 1 (fun j _=>.int .u8 (bs j))
def Io (w:World) (B g:Nat) (a:Option Addr) (n cap:Nat):Prop:=∃ (i:Nat) (h:Int) (bs:Nat→Int),
 w.heap[g]?=some (.cells #[.slice a n cap,.int .i64 i,.int .i64 h] 147 (0,0))∧i≤n∧n≤4096∧B≤g∧(∀ j,0≤bs j∧bs j≤255)∧Seg w B a n 1 (fun j _=>.int .u8 (bs j))
theorem Io.ds {w:World} {B g n cap:Nat} {a:Option Addr} (h:Io w B g a n cap):DS w B g:=⟨a,n,cap,h⟩
theorem DS.dsx {w:World} {B g:Nat} (h:DS w B g):∃ a n cap,Io w B g a n cap:=h
theorem Io.cell0 {w:World} {B g n cap:Nat} {a:Option Addr} (h:Io w B g a n cap):w.cell? ⟨g,0,none⟩=some (.slice a n cap)∧n≤4096:=by
 obtain ⟨i,h,bs,F,_,h2,_⟩:=h;exact ⟨cell_of_row w g 0 _ _ _ F,h2⟩
theorem DS.lt {w:World} {B g:Nat} (h:DS w B g):g<w.heap.size:=by
 obtain ⟨a,n,cap,i,h,bs,F,_⟩:=h;exact (Array.getElem?_eq_some_iff.1 F).1
theorem DS.le {w:World} {B g:Nat} (h:DS w B g):B≤g:=by
 obtain ⟨a,n,cap,i,h,bs,G,_,_,F,_⟩:=h;exact F
theorem DS.keep {w w':World} {B g:Nat} (h:DS w B g) (e:w'.heap[g]?=w.heap[g]?) (k:Below B w w'):DS w' B g:=by
 obtain ⟨a,n,cap,i,h,bs,H,h1,h2,h3,F,G⟩:=h;exact ⟨a,n,cap,i,h,bs,e.trans H,h1,h2,h3,F,G.below k⟩
theorem DS.alloc {w:World} {B g:Nat} {o:Obj} (h:DS w B g):DS (w.alloc o) B g:=h.keep (Below.heap_alloc w o g h.lt) ((Below.refl _ _).alloc K8 o)
theorem DS.drew {w:World} {B g:Nat} (h:DS w B g):DS w.drew B g:=h
theorem DS.setCell {w:World} {B g:Nat} {p:Addr} {u:Value} (h:DS w B g) (hp:B≤p.block) (F:g≠p.block):DS (w.setCell p u) B g:=h.keep (Below.heap_setCell w p u g F) ((Below.refl _ _).setCell hp u)
theorem zD {w:World} {B g:Nat} (h:DS w B g:=by (repeat (first|with_reducible assumption|with_reducible refine DS.alloc ?_|with_reducible refine DS.drew ?_|((with_reducible refine DS.setCell ?_ ?_ ?_);rotate_left;(focus ((try simp);(try omega)));(focus ((try simp);(try omega))))))):DS w B g:=h
theorem DS.below {w w':World} {B g:Nat} (h:DS w B g) (k:Below w w w'):DS w' B g:=h.keep (k.block g h.lt) (k.mono K8)
theorem iZ {w:World} {g:Nat} {cs:Array Value} {t:TypeId} (h:w.heap[g]?=some (.cells cs t (0,0))) (j:Nat) (u:Value):(w.setCell ⟨g,j,none⟩ u).heap[g]?=some (.cells (cs.setIfInBounds j u) t (0,0)):=by
 simp [World.setCell,Array.getElem?_modify,h]
theorem dJ {w:World} {g:Nat} {cs:Array Value} {t:TypeId} (h:w.heap[g]?=some (.cells cs t (0,0))) (o:Nat):w.frozen? ⟨g,o,none⟩=false:=by
 simp [World.frozen?,h]
def xM (m:Int) (r:Ending):Prop:=∃ x:Int,r=.returned (.int .i64 x)∧0≤x∧x≤m
theorem FO (B g n cap i:Nat) (a:Option Addr) (h:Int) (bs:Nat→Int) (w:World)
  (F:w.heap[g]?=some (.cells #[.slice a n cap,.int .i64 i,.int .i64 h] 147 (0,0))) (hi:i≤n) (V:n≤4096) (M:B≤g) (I:∀ j,0≤bs j∧bs j≤255) (N:Hid (Seg w B a n 1 (fun j _=>.int .u8 (bs j)))) :
  Calls prog 115 #[.pointer (some ⟨g,0,none⟩)] w fun r w'=>xM 255 r∧Io w' B g a n cap∧Gr g w w':=by
 have c0:=cell_of_row w g 0 _ _ _ F;have X:=cell_of_row w g 1 _ _ _ F;have c2:=cell_of_row w g 2 _ _ _ F;have f0:=dJ F;have a2:g<w.heap.size:=(Array.getElem?_eq_some_iff.1 F).1;simp at c0 X c2;have R:=aA F;have HB:=aA I;clear F I;by_cases O:i<n
 ·obtain h0|⟨b,o,rfl,hb,hc⟩:=N.out
  ·omega
  have T:=hc i 0 O tO;have G:=HB.out i;simp only [Nat.add_zero,Nat.mul_one] at T;clear hc;generalize bs i=y at T G;obtain ⟨a3,a4⟩:=G;have Y:b≠g:=tO;have Z:¬ g=b:=tO;have a0:(0:Int)≤(i:Int):=tO;have a1:(i:Int)<(n:Int):=tO;go_enter func115,ntmps115;go_wp2;generalize wrap64 (wrap64 (h*6364136223846793005)+1442695040888963407)=H
  go_quiet (fail)
  go_wp2;have J:=pV (bits BinOp.xor IntKind.i64 (H / 8589934592) (H / 35184372088832)) 255 tO tO;generalize bits BinOp.and IntKind.i64 (bits BinOp.xor IntKind.i64 (H / 8589934592) (H / 35184372088832)) 255=x at J;obtain ⟨K,L⟩:=J
  go_quiet (fail)
  go_wp2
  go_quiet (fail)
  have hz:=pV (IntKind.i64.wrap (x+y)) 255 tO tO;have hz':=pV (x+y) 255 tO tO;go_wp2;go_ret;exact ⟨⟨_,rfl,hz'.1,hz'.2⟩,⟨i+1,H,bs,by simpa using iZ (IU (iZ R.out 2 _)) 1 _,by omega,V,M,HB.out,N.out.below (by repeat (first|exact Below.refl _ _|refine Below.setCell ?_ M _|refine V9 ?_ _))⟩,by repeat (first|exact gR _ _|refine gS ?_ (.inl rfl)|refine V8 ?_ _)⟩
 ·have U:¬ (i:Int)<(n:Int):=by omega
  go_enter func115,ntmps115
  go_wp2;generalize wrap64 (wrap64 (h*6364136223846793005)+1442695040888963407)=H
  go_quiet (fail)
  go_wp2;have J:=pV (bits BinOp.xor IntKind.i64 (H / 8589934592) (H / 35184372088832)) 255 tO tO;generalize bits BinOp.and IntKind.i64 (bits BinOp.xor IntKind.i64 (H / 8589934592) (H / 35184372088832)) 255=x at J;obtain ⟨K,L⟩:=J
  go_quiet (fail)
  go_wp2;go_ret;exact ⟨⟨x,rfl,K,L⟩,⟨i,H,bs,by simpa using iZ R.out 2 _,hi,V,M,HB.out,N.out.below (V9 (V9 ((Below.refl _ _).setCell M _) _) _)⟩,V8 (V8 (gS (gR _ _) (.inl rfl)) _) _⟩
theorem tX (B g n cap:Nat) (a:Option Addr) (w:World) (h:Io w B g a n cap):Calls prog 115 #[.pointer (some ⟨g,0,none⟩)] w fun r w'=>xM 255 r∧Io w' B g a n cap∧Gr g w w':=by
 obtain ⟨i,h,bs,H,h1,h2,h3,F,G⟩:=h;exact FO B g n cap i a h bs w H h1 h2 h3 F (aA G)
theorem pW (x:Int) {n:Int} (F:0<n):0≤x % n∧x % n≤n - 1:=by
 have:=Int.emod_nonneg x (show n≠0 by omega);have:=Int.emod_lt_of_pos x F;omega
theorem CZ (B g H cap:Nat) (a:Option Addr) (n:Int) (w:World) (h:Io w B g a H cap) (I:0<n) (U:n≤1000000):Calls prog 66 #[.pointer (some ⟨g,0,none⟩),.int .i64 n] w fun r w'=>xM (n - 1) r∧Io w' B g a H cap∧Gr g w w':=by
 by_cases hs:n≤256
 ·go_enter func66,ntmps66
  go_wp2_with fail;refine (tX B g H cap a _ h).mono ?_
  rintro r w1 ⟨⟨x,rfl,R,T⟩,F,G⟩;go_wp2;go_ret;exact ⟨⟨_,rfl,(pW _ I).1,(pW _ I).2⟩,F,G⟩
 ·go_enter func66,ntmps66
  go_wp2_with fail;refine (tX B g H cap a _ h).mono ?_
  rintro r w1 ⟨⟨x,rfl,R,T⟩,F,G⟩;go_wp2_with fail;refine (tX B g H cap a _ F).mono ?_;rintro r w2 ⟨⟨y,rfl,Y,Z⟩,J,M⟩;go_wp2_with fail;refine (tX B g H cap a _ J).mono ?_;rintro r w3 ⟨⟨z,rfl,a0,a1⟩,K,N⟩;go_wp2_with fail;refine (tX B g H cap a _ K).mono ?_;rintro r w4 ⟨⟨u,rfl,V,X⟩,L,O⟩;go_wp2;go_ret;exact ⟨⟨_,rfl,(pW _ I).1,(pW _ I).2⟩,L,gT (gT (gT G M) N) O⟩
theorem fJ (B g:Nat) (n:Int) (w:World) (h:DS w B g) (G:0<n) (F:n≤1000000):Calls prog 66 #[.pointer (some ⟨g,0,none⟩),.int .i64 n] w fun r w'=>xM (n - 1) r∧DS w' B g∧Gr g w w':=by
 obtain ⟨a,H,cap,h⟩:=h.dsx;exact (CZ B g H cap a n w h G F).mono fun _ _ ⟨h1,h2,h3⟩=>⟨h1,h2.ds,h3⟩
def VD (r:Ending):Prop:=∃ b:Bool,r=.returned (.bool b)
def UC (r:Ending):Prop:=∃ x:Int,r=.returned (.int .i64 x)
def VE (lo hi:Int) (r:Ending):Prop:=∃ x:Int,r=.returned (.int .i64 x)∧lo≤x∧x≤hi
theorem jM (B g:Nat) (n:Int) (w:World) (h:DS w B g) (I:0<n) (H:n≤1000000):Calls prog 65 #[.pointer (some ⟨g,0,none⟩),.int .i64 n] w fun r w'=>VD r∧DS w' B g∧Gr g w w':=by
 go_enter func65,ntmps65
 go_wp2_with fail;refine (fJ B g n _ h I H).mono ?_
 rintro r L ⟨⟨x,rfl,J,K⟩,F,G⟩;go_wp2;go_ret;exact ⟨⟨_,rfl⟩,F,G⟩
theorem nE (B g:Nat) (lo F:Int) (w:World) (h:DS w B g) (h1:-1000000≤lo) (h2:lo≤F) (h3:F - lo<1000000) (K:F≤1000000):Calls prog 116 #[.pointer (some ⟨g,0,none⟩),.int .i64 lo,.int .i64 F] w fun r w'=>VE lo F r∧DS w' B g∧Gr g w w':=by
 go_enter func116,ntmps116
 go_wp2_with fail;refine (fJ B g (F - lo+1) _ h tO tO).mono ?_
 rintro r L ⟨⟨x,rfl,I,J⟩,G,H⟩;go_wp2;go_ret;exact ⟨⟨lo+x,rfl,by omega,by omega⟩,G,H⟩
theorem Da (a b:Int) (w:World):Calls prog 186 #[.int .i64 a,.int .i64 b] w fun r w'=>r=.returned (.int .i64 (if a<b then a else b))∧w=w':=by
 by_cases h:a<b
 ·rw [if_pos h]
  go_enter func186,ntmps186
  go_wp2;go_ret;exact ⟨rfl,rfl⟩
 ·rw [if_neg h]
  go_enter func186,ntmps186
  go_wp2;go_ret;exact ⟨rfl,rfl⟩
theorem LU (B g:Nat) (w:World) (h:DS w B g):Calls prog 187 #[.pointer (some ⟨g,0,none⟩)] w fun r w'=>UC r∧DS w' B g∧Gr g w w':=by
 have J:=h.lt;go_enter func187,ntmps187;go_wp2_with fail;refine (fJ B g 10 _ h.alloc tO tO).mono ?_;rintro r I ⟨⟨x,rfl,H,K⟩,G,F⟩;obtain ⟨k,rfl⟩:=Int.eq_ofNat_of_zero_le H;have L:k<10:=tO;have N:w≤I.heap.size:=Nat.le_trans cK F.size;have hc:∃ v:Int,I.cell? ⟨w,k,none⟩=some (.int .i64 v):=by
  rw [mP F cK tO];have:k=0∨k=1∨k=2∨k=3∨k=4∨k=5∨k=6∨k=7∨k=8∨k=9:=by omega
  rcases this with rfl|rfl|rfl|rfl|rfl|rfl|rfl|rfl|rfl|rfl <;> simp
 obtain ⟨v,M⟩:=hc;go_wp2;go_ret;exact ⟨⟨_,rfl⟩,G,gT (gA (gR _ _)) F⟩
theorem nG (B g:Nat) (n:Int) (w:World) (h:DS w B g) (hn:0≤n) (a0:n<1000000):Calls prog 164 #[.pointer (some ⟨g,0,none⟩),.int .i64 n] w fun r w'=>UC r∧DS w' B g∧Gr g w w':=by
 have X:=h.lt;go_enter func164,ntmps164;go_wp2_with fail;refine (jM B g 10 _ h tO tO).mono ?_;rintro r w1 ⟨⟨x,rfl⟩,J,K⟩;have U:=J.lt;cases x
 ·go_wp2_with fail
  refine (jM B g 2 _ J tO tO).mono ?_;rintro r T ⟨⟨y,rfl⟩,G,I⟩;cases y
  ·go_wp2_with fail
   refine (fJ B g _ _ G tO tO).mono ?_;rintro r O ⟨⟨z,rfl,M,N⟩,H,F⟩;go_wp2;go_ret;exact ⟨⟨_,rfl⟩,H,gT (gT K I) F⟩
  ·go_wp2_with fail
   refine (Da _ _ _).mono ?_;rintro _ _ ⟨rfl,rfl⟩;have R:0≤(if n<4 then n else 4)∧(if n<4 then n else 4)≤4:=by split <;> omega
   generalize (if n<4 then n else 4)=m at R;obtain ⟨Y,Z⟩:=R;go_wp2_with fail;refine (fJ B g _ _ G tO tO).mono ?_;rintro r O ⟨⟨z,rfl,M,N⟩,H,F⟩;go_wp2;go_ret;exact ⟨⟨_,rfl⟩,H,gT (gT K I) F⟩
 ·go_wp2_with fail
  refine (LU B g _ J).mono ?_;rintro r T ⟨⟨y,rfl⟩,G,I⟩;have V:=G.lt;go_wp2_with fail;refine (fJ B g 4 _ G.alloc tO tO).mono ?_;rintro r O ⟨⟨x,rfl,L,a1⟩,H,F⟩;obtain ⟨k,rfl⟩:=Int.eq_ofNat_of_zero_le L;have hk:k<4:=tO;have hc:∃ v:Int,O.cell? ⟨T,k,none⟩=some (.int .i64 v):=by
   rw [mP F cK tO];have:k=0∨k=1∨k=2∨k=3:=by omega
   rcases this with rfl|rfl|rfl|rfl <;> simp
  obtain ⟨v,hv⟩:=hc;go_wp2;go_ret;exact ⟨⟨_,rfl⟩,H,gT (gA (gT K I)) F⟩
end
section
theorem kA {x0 a b:Prop} (f:a→b) (h:x0∧a):x0∧b:=⟨h.1,f h.2⟩
theorem kB {x0 F a b:Prop} (f:a→b) (h:x0∧F∧a):x0∧F∧b:=⟨h.1,h.2.1,f h.2.2⟩
theorem kC {x0 F G H a b:Prop} (f:a→b) (h:x0∧F∧G∧H∧a):x0∧F∧G∧H∧b:=⟨h.1,h.2.1,h.2.2.1,h.2.2.2.1,f h.2.2.2.2⟩
theorem kD {x0 F G H I J K L a b:Prop} (f:a→b) (h:x0∧F∧G∧H∧I∧J∧K∧L∧a):x0∧F∧G∧H∧I∧J∧K∧L∧b:=⟨h.1,h.2.1,h.2.2.1,h.2.2.2.1,h.2.2.2.2.1,h.2.2.2.2.2.1,h.2.2.2.2.2.2.1,h.2.2.2.2.2.2.2.1,f h.2.2.2.2.2.2.2.2⟩
theorem kE {x0 L M N O R T U V X F G H I J K a b:Prop} (f:a→b) (h:x0∧L∧M∧N∧O∧R∧T∧U∧V∧X∧F∧G∧H∧I∧J∧K∧a):x0∧L∧M∧N∧O∧R∧T∧U∧V∧X∧F∧G∧H∧I∧J∧K∧b:=⟨h.1,h.2.1,h.2.2.1,h.2.2.2.1,h.2.2.2.2.1,h.2.2.2.2.2.1,h.2.2.2.2.2.2.1,h.2.2.2.2.2.2.2.1,h.2.2.2.2.2.2.2.2.1,h.2.2.2.2.2.2.2.2.2.1,h.2.2.2.2.2.2.2.2.2.2.1,h.2.2.2.2.2.2.2.2.2.2.2.1,h.2.2.2.2.2.2.2.2.2.2.2.2.1,h.2.2.2.2.2.2.2.2.2.2.2.2.2.1,h.2.2.2.2.2.2.2.2.2.2.2.2.2.2.1,h.2.2.2.2.2.2.2.2.2.2.2.2.2.2.2.1,f h.2.2.2.2.2.2.2.2.2.2.2.2.2.2.2.2⟩
theorem jC {x0 F G H a:Prop} (h:x0∧F∧G∧H∧a):a:=h.2.2.2.2
theorem jD {x0 F G H I J K L a:Prop} (h:x0∧F∧G∧H∧I∧J∧K∧L∧a):a:=h.2.2.2.2.2.2.2.2
theorem jE {x0 L M N O R T U V X F G H I J K a:Prop} (h:x0∧L∧M∧N∧O∧R∧T∧U∧V∧X∧F∧G∧H∧I∧J∧K∧a):a:=h.2.2.2.2.2.2.2.2.2.2.2.2.2.2.2.2
theorem kX {a b c d:Prop} (x:c) (f:a→b) (h:d∧a):c∧b:=⟨x,f h.2⟩
theorem nB {P:Prop} (h:false=true):P:=by cases h
def qB (l:List Nat):List Nat:=0 :: 1 :: 2 :: 3 :: 4 :: 5 :: 6 :: 7 :: l
def qC (l:List Nat):List Nat:=0 :: 1 :: 2 :: 3 :: 4 :: 5 :: 6 :: 7 :: 8 :: 9 :: 10 :: 11 :: 12 :: 13 :: 14 :: 15 :: l
def qD (l:List Nat):List Nat:=0 :: 1 :: 2 :: 3 :: 4 :: 5 :: 6 :: 7 :: 8 :: 9 :: 10 :: 11 :: 12 :: 13 :: 14 :: 15 :: 16 :: 17 :: 18 :: 19 :: 20 :: 21 :: 22 :: 23 :: l
def qE (l:List Nat):List Nat:=0 :: 1 :: 2 :: 3 :: 4 :: 5 :: 6 :: 7 :: 8 :: 9 :: 10 :: 11 :: 12 :: 13 :: 14 :: 15 :: 16 :: 17 :: 18 :: 19 :: 20 :: 21 :: 22 :: 23 :: 24 :: 25 :: 26 :: 27 :: 28 :: 29 :: 30 :: 31 :: l
end
section
open Go.RowKit
theorem LV (B n cap:Nat) (a:Option Addr) (bs:Nat→Int) (w:World) (L:B≤w.heap.size) (M:n≤4096) (G:∀ j,0≤bs j∧bs j≤255) (h:Seg w B a n 1 (fun j _=>.int .u8 (bs j))) :
  Calls prog 63 #[.slice a n cap] w fun r w'=>∃ g,r=.returned (.pointer (some ⟨g,0,none⟩))∧DS w' B g∧w.heap.size≤g∧Below w w w':=by
 have J:=aA h;have HB:=aA G;clear h G;go_enter func63,ntmps63;go_wp2
 go_loop [3,4] (fun h i=>∃ (H:Int) (k:Nat),k≤n∧i=.int .i64 k∧h=.int .i64 H) (fun _ i=>n - (intOf i).toNat)
 case atStart=>exact ⟨_,0,Nat.zero_le _,rfl,rfl⟩
 case round =>
  obtain ⟨H,k,U,rfl,rfl⟩:=hrel;by_cases I:k<n
  ·obtain R|⟨b,o,rfl,T,hc⟩:=J.out
   ·omega
   have K:=hc k 0 I tO;have F:=HB.out k;simp only [Nat.add_zero,Nat.mul_one] at K;clear hc;generalize bs k=y at K F;obtain ⟨N,O⟩:=F;go_wp2
   go_round
   case rel=>exact ⟨_,k+1,by omega,by go_num,rfl⟩
   case measure=>simp [intOf];omega
  ·have:k=n:=by omega
   subst this;go_wp2;go_ret;exact ⟨_,rfl,⟨a,k,cap,0,_,bs,heap_alloc_new w _,by omega,M,L,HB.out,J.out.below ((Below.refl _ _).alloc L _)⟩,Nat.le_refl _,(Below.refl _ _).alloc (Nat.le_refl _) _⟩
def VF (r:Ending):Prop:=∃ s e t:Int,r=.returned (.agg #[.int .i64 s,.int .i64 e,.int .i64 t])
theorem Aj (B g:Nat) (w:World) (hd:DS w B g):Calls prog 188 #[.pointer (some ⟨g,0,none⟩)] w fun r w'=>VF r∧DS w' B g∧Gr g w w':=by
 have hl:=hd.lt;have aj:=hd.le;go_enter func188,ntmps188;go_wp2_with fail;refine (fJ B g 11  _ zD  tO tO).mono ?_;rintro _ w1 ⟨⟨x1,rfl,_,_⟩,X,M⟩;have a9:Gr g w w1:=gT lY M;have ae:=X.lt;have a2:=M.size;(try (simp at a2));have:=mP M (b:=w) (fK) tO;have:=nT M (b:=w) (fK) tO;have:w<w1.heap.size:=tO;have:w≤w1.heap.size:=tO;have:w≤w1.heap.size+1:=tO;go_wp2_with fail;refine (fJ B g 20  _ zD  tO tO).mono ?_;rintro _ w2 ⟨⟨x2,rfl,_,_⟩,Y,N⟩;have aa:Gr g w w2:=gT lY N;have af:=Y.lt;have a3:=N.size;(try (simp at a3));have:=mP N (b:=w) (fK) tO;have:=nT N (b:=w) (fK) tO;have:w<w2.heap.size:=tO;have:w≤w2.heap.size:=tO;have:w≤w2.heap.size+1:=tO
 go_wp2_with fail;refine (fJ B g 4  _ zD  tO tO).mono ?_;rintro _ G ⟨⟨x3,rfl,_,_⟩,Z,O⟩;have ab:Gr g w G:=gT lY O;have ag:=Z.lt;have a4:=O.size;(try (simp at a4));have:=mP O (b:=w) (fK) tO;have:=nT O (b:=w) (fK) tO;have:w<G.heap.size:=tO;have:w≤G.heap.size:=tO;have:w≤G.heap.size+1:=tO
 go_wp2_with fail;refine (jM B g 5  _ zD  tO tO).mono ?_;rintro _ U ⟨⟨y4,rfl⟩,a0,I⟩;have ac:Gr g w U:=gT lY I;have ah:=a0.lt;have a5:=I.size;(try (simp at a5));have:=mP I (b:=w) (fK) tO;have:=nT I (b:=w) (fK) tO;have:w<U.heap.size:=tO;have:w≤U.heap.size:=tO;have:w≤U.heap.size+1:=tO;have:=mP I (b:=G) (fK) tO;have:=nT I (b:=G) (fK) tO;have:G<U.heap.size:=tO;have:G≤U.heap.size:=tO;have:G≤U.heap.size+1:=tO
 cases y4
 ·go_wp2
  refine bodyPost_ret (v:=.agg #[.int .i64 x1,.int .i64 x2,.int .i64 x3]) K7 rfl ⟨⟨_,_,_,rfl⟩,?_,?_⟩
  ·exact zD
  ·exact lY
 ·go_wp2_with fail;refine (fJ B g 3  _ zD  tO tO).mono ?_;rintro _ V ⟨⟨x5,rfl,a7,a8⟩,a1,J⟩;have ad:Gr g w V:=gT lY J;have ai:=a1.lt;have a6:=J.size;(try (simp at a6));have:=mP J (b:=w) (fK) tO;have:=nT J (b:=w) (fK) tO;have:w<V.heap.size:=tO;have:w≤V.heap.size:=tO;have:w≤V.heap.size+1:=tO;have:=mP J (b:=G) (fK) tO;have:=nT J (b:=G) (fK) tO;have:G<V.heap.size:=tO;have:G≤V.heap.size:=tO;have:G≤V.heap.size+1:=tO
  have hx:x5=0∨x5=1∨x5=2:=tO;clear a7 a8;rcases hx with rfl|rfl|rfl
  ·go_wp2_with fail;refine (nE B g (-1) 11  _ zD  tO tO tO tO).mono ?_;rintro _ H ⟨⟨x6,rfl,_,_⟩,K,F⟩;have R:Gr g w H:=gT lY F;have T:=K.lt;have L:=F.size;(try (simp at L));have:=mP F (b:=w) (fK) tO;have:=nT F (b:=w) (fK) tO;have:w<H.heap.size:=tO;have:w≤H.heap.size:=tO;have:w≤H.heap.size+1:=tO;have:=mP F (b:=G) (fK) tO;have:=nT F (b:=G) (fK) tO;have:G<H.heap.size:=tO;have:G≤H.heap.size:=tO;have:G≤H.heap.size+1:=tO
   go_wp2;refine bodyPost_ret (v:=.agg #[.int .i64 x6,.int .i64 x2,.int .i64 x3]) K7 rfl ⟨⟨_,_,_,rfl⟩,?_,?_⟩
   ·exact zD
   ·exact lY
  ·go_wp2_with fail;refine (nG B g 999  _ zD  tO tO).mono ?_;rintro _ H ⟨⟨x6,rfl⟩,K,F⟩;have R:Gr g w H:=gT lY F;have T:=K.lt;have L:=F.size;(try (simp at L));have:=mP F (b:=w) (fK) tO;have:=nT F (b:=w) (fK) tO;have:w<H.heap.size:=tO;have:w≤H.heap.size:=tO;have:w≤H.heap.size+1:=tO;have:=mP F (b:=G) (fK) tO;have:=nT F (b:=G) (fK) tO;have:G<H.heap.size:=tO;have:G≤H.heap.size:=tO;have:G≤H.heap.size+1:=tO
   go_wp2;refine bodyPost_ret (v:=.agg #[.int .i64 x1,.int .i64 x6,.int .i64 x3]) K7 rfl ⟨⟨_,_,_,rfl⟩,?_,?_⟩
   ·exact zD
   ·exact lY
  ·go_wp2_with fail;refine (nG B g 80  _ zD  tO tO).mono ?_;rintro _ H ⟨⟨x6,rfl⟩,K,F⟩;have R:Gr g w H:=gT lY F;have T:=K.lt;have L:=F.size;(try (simp at L));have:=mP F (b:=w) (fK) tO;have:=nT F (b:=w) (fK) tO;have:w<H.heap.size:=tO;have:w≤H.heap.size:=tO;have:w≤H.heap.size+1:=tO;have:=mP F (b:=G) (fK) tO;have:=nT F (b:=G) (fK) tO;have:G<H.heap.size:=tO;have:G≤H.heap.size:=tO;have:G≤H.heap.size+1:=tO
   go_wp2;refine bodyPost_ret (v:=.agg #[.int .i64 x1,.int .i64 x2,.int .i64 x6]) K7 rfl ⟨⟨_,_,_,rfl⟩,?_,?_⟩
   ·exact zD
   ·exact lY
structure Code (w:World) (B:Nat) (a:Option Addr) (n:Nat) (bs:Nat→Int):Prop where
 len:n≤4096
 bd:∀ j,0≤bs j∧bs j≤255
 seg:Seg w B a n 1 (fun j _=>.int .u8 (bs j))
theorem Code.below {w w':World} {B n:Nat} {a:Option Addr} {bs:Nat→Int} (h:Code w B a n bs) (k:Below B w w'):Code w' B a n bs:=⟨h.len,h.bd,h.seg.below k⟩
theorem Code.more {w:World} {B F n:Nat} {a:Option Addr} {bs:Nat→Int} (h:Code w B a n bs) (k:B≤F):Code w F a n bs:=⟨h.len,h.bd,h.seg.more k⟩
theorem KL (B n cap:Nat) (a:Option Addr) (bs:Nat→Int) (w:World) (h:Code w B a n bs) (F:B≤w.heap.size) :
  Calls prog 63 #[.slice a n cap] w fun r w'=>∃ g,r=.returned (.pointer (some ⟨g,0,none⟩))∧DS w' B g∧w.heap.size≤g∧Below w w w' :=
 LV B n cap a bs w F h.len h.bd h.seg
def Vd (r:Ending):Prop:=∃ k e:Int,r=.returned (.agg #[.int .i64 k,.int .i64 e])∧eD k e=true
theorem IV {x:Int} (F:0≤x) (h1:x≤99):eD 1 x=true:=by
 simp [eD,dV];omega
theorem Ak (B g:Nat) (w:World) (T:DS w B g):Calls prog 165 #[.pointer (some ⟨g,0,none⟩)] w fun r w'=>Vd r∧DS w' B g∧Gr g w w':=by
 have hl:=T.lt;have Y:=T.le;go_enter func165,ntmps165;go_wp2_with fail;refine (jM B g 2  _ zD  tO tO).mono ?_;rintro _ L ⟨⟨y1,rfl⟩,H,F⟩;have O:Gr g w L:=gT lY F;have U:=H.lt;have J:=F.size;(try (simp at J));have:=mP F (b:=w) (fK) tO;have:=nT F (b:=w) (fK) tO;have:w<L.heap.size:=tO;have:w≤L.heap.size:=tO;have:w≤L.heap.size+1:=tO;cases y1
 ·go_wp2_with fail;refine (fJ B g 100  _ zD  tO tO).mono ?_;rintro _ M ⟨⟨Z,rfl,N,X⟩,I,G⟩;have R:Gr g w M:=gT lY G;have V:=I.lt;have K:=G.size;(try (simp at K));have:=mP G (b:=w) (fK) tO;have:=nT G (b:=w) (fK) tO;have:w<M.heap.size:=tO;have:w≤M.heap.size:=tO;have:w≤M.heap.size+1:=tO
  go_wp2;refine bodyPost_ret (v:=.agg #[.int .i64 1,.int .i64 Z]) (by simp [results,results165,go_sem, *]) rfl ⟨⟨_,_,rfl,IV N tO⟩,?_,?_⟩
  ·exact zD
  ·exact lY
 ·go_wp2
  refine bodyPost_ret (v:=.agg #[.int .i64 2,.int .i64 0]) (by simp [results,results165,go_sem, *]) rfl ⟨⟨_,_,rfl,by decide⟩,?_,?_⟩
  ·exact zD
  ·exact lY
end
section
structure Lc where
 s:Nat
 wt:Nat
 sp:Nat
 rp:Nat
 gp:Nat
 sw:Nat
 rw:Nat
def Lc.beq (x y:Lc):Bool:=Nat.beq x.s y.s && (Nat.beq x.wt y.wt && (Nat.beq x.sp y.sp && (Nat.beq x.rp y.rp && (Nat.beq x.gp y.gp && (Nat.beq x.sw y.sw && Nat.beq x.rw y.rw)))))
theorem Lc.beq_eq {x y:Lc} (h:x.beq y=true):x=y:=by
 simp only [Lc.beq,Bool.and_eq_true] at h;obtain ⟨h1,h2,h3,F,G,h6,H⟩:=h;cases x;cases y;simp only [Lc.mk.injEq];exact ⟨Nat.eq_of_beq_eq_true h1,Nat.eq_of_beq_eq_true h2,Nat.eq_of_beq_eq_true h3,Nat.eq_of_beq_eq_true F,Nat.eq_of_beq_eq_true G,Nat.eq_of_beq_eq_true h6,Nat.eq_of_beq_eq_true H⟩
inductive Wt where
 | e:Wt
 | n (l:Wt) (k:Lc) (r:Wt):Wt
def Lc.lt (x y:Lc):Bool :=
 Nat.blt x.s y.s || (Nat.beq x.s y.s && (Nat.blt x.wt y.wt || (Nat.beq x.wt y.wt && (Nat.blt x.sp y.sp || (Nat.beq x.sp y.sp && (Nat.blt x.rp y.rp || (Nat.beq x.rp y.rp && (Nat.blt x.gp y.gp || (Nat.beq x.gp y.gp && (Nat.blt x.sw y.sw || (Nat.beq x.sw y.sw && Nat.blt x.rw y.rw)))))))))))
def Wt.mem:Wt→Lc→Bool
 | .e,_=>false
 | .n l k r,x=>cond (x.beq k) true (cond (x.lt k) (l.mem x) (r.mem x))
def Wt.all (p:Lc→Bool):Wt→Bool
 | .e=>true
 | .n l k r=>p k && (l.all p && r.all p)
theorem Wt.all_at {p:Lc→Bool} {x:Lc}:∀ {t:Wt},t.all p=true→t.mem x=true→p x=true:=by
 intro t;induction t with
 | e=>intro _ h;cases h
 | n l k r hl hr =>
  intro G F;simp only [Wt.all,Bool.and_eq_true] at G;unfold Wt.mem at F;cases H:x.beq k with
  | true=>rw [Lc.beq_eq H];exact G.1
  | false =>
   rw [H] at F;cases hc:x.lt k with
   | true=>rw [hc] at F;exact hl G.2.1 F
   | false=>rw [hc] at F;exact hr G.2.2 F
def Lc.of (k:Nat):Lc:=⟨k / 393216000,k / 131072000 % 3,k / 3276800 % 40,k / 40960 % 80,k / 512 % 80,k / 128 % 4,k / 32 % 4⟩
inductive Nt where
 | e:Nt
 | f (k:Nat):Nt
 | n (l:Nt) (k:Nat) (r:Nt):Nt
def Nt.wt:Nt→Wt
 | .e=>.e
 | .f k=>.n .e (Lc.of k) .e
 | .n l k r=>.n l.wt (Lc.of k) r.wt
open Nt in
def codes:Nt:=(n (n (n (n (n (n (n (n (n (f 504) 1007 (f 9204)) 15855 (n (f 410100) 410606 e)) 418803 (n (n (f 425454) 451059 e) 451565 (n (f 459762) 466413 e))) 492018 (n (n (n (f 492524) 500721 (f 507372)) 6554103 (n (f 6554603) 6562803 e)) 6563314 (n (n (f 6563825) 6569451 e) 6963699 (n (f 6964202) 6972402 e)))) 6972913 (n (n (n (n (f 6973424) 6979050 (f 7004658)) 7005161 (n (f 7013361) 7013872 e)) 7014383 (n (n (f 7020009) 7045617 e) 7046123 (n (f 7054320) 7054831 e))) 7055342 (n (n (n (f 7060971) 7455217 (f 7455720)) 7463920 (n (f 7464431) 7464942 e)) 7470568 (n (n (f 9830902) 9831402 e) 9839602 (n (f 9840113) 9840624 e))))) 9846250 (n (n (n (n (n (f 10240498) 10241001 (f 10249201)) 10249712 (n (f 10250223) 10255849 e)) 10281457 (n (n (f 10281960) 10290160 e) 10290671 (n (f 10291182) 10296808 e))) 10322416 (n (n (n (f 10322922) 10331119 (f 10331630)) 10332141 (n (f 10337770) 10732016 e)) 10732519 (n (n (f 10740719) 10741230 e) 10741741 (n (f 10747367) 13107701 e)))) 13108201 (n (n (n (n (f 13116401) 13116912 (f 13117423)) 13123049 (n (f 13517297) 13517800 e)) 13526000 (n (n (f 13526511) 13527022 e) 13532648 (n (f 13558256) 13558759 e))) 13566959 (n (n (n (f 13567470) 13567981 e) 13573607 (n (f 13599215) 13599721 e)) 13607918 (n (n (f 13608429) 13608940 e) 13614569 (n (f 14008815) 14009318 e)))))) 14017518 (n (n (n (n (n (n (f 14018029) 14018540 (f 14024166)) 16384500 (n (f 16393203) 16393714 e)) 16394225 (n (n (f 16794096) 16802799 e) 16803310 (n (f 16803821) 16835055 e))) 16843758 (n (n (n (f 16844269) 16844780 (f 16876014)) 16884717 (n (f 16885228) 16885739 e)) 17285614 (n (n (f 17294317) 17294828 e) 17295339 (n (f 49153000) 49161200 e)))) 49161711 (n (n (n (n (f 49162222) 49167848 (f 49562599)) 49570799 (n (f 49571310) 49571821 e)) 49577447 (n (n (f 49603558) 49611758 e) 49612269 (n (f 49612780) 49618406 e))) 49644520 (n (n (n (f 49652717) 49653228 (f 49653739)) 49659368 (n (f 50054117) 50062317 e)) 50062828 (n (n (f 50063339) 50068965 e) 52429299 (n (f 52438002) 52438513 e))))) 52439024 (n (n (n (n (n (f 52838898) 52847601 (f 52848112)) 52848623 (n (f 52879857) 52888560 e)) 52889071 (n (n (f 52889582) 53330416 e) 53339119 (n (f 53339630) 53340141 e))) 85197799 (n (n (n (f 85205999) 85206510 (f 85207021)) 85212647 (n (f 85606895) 85607398 e)) 85615598 (n (n (f 85616109) 85616620 e) 85622246 (n (f 85647854) 85648357 e)))) 85656557 (n (n (n (n (f 85657068) 85657579 (f 85663205)) 85688813 (n (f 85689319) 85697516 e)) 85698027 (n (n (f 85698538) 85704167 e) 86098413 (n (f 86098916) 86107116 e))) 86107627 (n (n (n (f 86108138) 86113764 e) 399785449 (n (f 400195048) 400236010 e)) 400276969 (n (n (f 400645607) 400686569 e) 401505766 (n (f 403062248) 403471847 e))))))) 403512809 (n (n (n (n (n (n (n (f 403553768) 403922406 (f 403963368)) 404782565 (n (f 406339051) 406748650 e)) 406789612 (n (n (f 406830571) 407199209 e) 407240171 (n (f 408059368) 409615850 e))) 410025449 (n (n (n (f 410066411) 410107370 (f 410476008)) 410516970 (n (f 411336167) 412892647 e)) 413302246 (n (n (f 413343208) 413384167 e) 413752805 (n (f 413793767) 414612964 e)))) 442383850 (n (n (n (n (f 442793449) 442834411 (f 442875370)) 443244008 (n (f 443284970) 444104167 e)) 445660649 (n (n (f 446070248) 446111210 e) 446520807 (n (f 446561769) 447380966 e))) 478428649 (n (n (n (f 478838248) 478879210 (f 478920169)) 479288807 (n (f 479329769) 480148966 e)) 884736995 (n (n (f 884745189) 884745700 e) 884746213 (n (f 884751843) 885146085 e))))) 885146594 (n (n (n (n (n (f 885154788) 885155299 (f 885155812)) 885161442 (n (f 885187047) 885187556 e)) 885195750 (n (n (f 885196261) 885196774 e) 885202404 (n (f 885228006) 885228515 e))) 885236709 (n (n (n (f 885237220) 885237733 (f 885243363)) 885612004 (n (f 885637606) 885638115 e)) 885646309 (n (n (f 885646820) 885647333 e) 885652963 (n (f 886472163) 886866404 e)))) 886866913 (n (n (n (n (f 886875107) 886875618 (f 886876131)) 886881761 (n (f 992885988) 993295587 e)) 993336549 (n (n (f 993787108) 995015906 e) 995425508 (n (f 1015823587) 1016233186 e))) 1016274148 (n (n (n (f 1016724707) 1017953505 e) 1018363107 (n (f 1386086509) 1386086764 e)) 1386095212 (n (n (f 1386095467) 1386095723 e) 1386095978 (n (f 1386096236) 1386096491 e)))))) 1386101354 (n (n (n (n (n (n (f 1386101609) 1386496108 (f 1386496363)) 1386504811 (n (f 1386505066) 1386505322 e)) 1386505577 (n (n (f 1386505835) 1386506090 e) 1386510953 (n (f 1386511208) 1386537070 e))) 1386537325 (n (n (n (f 1386545773) 1386546028 (f 1386546284)) 1386546539 (n (f 1386546797) 1386547052 e)) 1386551915 (n (n (f 1386552170) 1386987629 e) 1386987884 (n (f 1386996332) 1386996587 e)))) 1386996843 (n (n (n (n (f 1386997098) 1386997356 (f 1386997611)) 1387002474 (n (f 1387002729) 1388626027 e)) 1388626282 (n (n (f 1388634730) 1388634985 e) 1388635241 (n (f 1388635496) 1388635754 e))) 1388636009 (n (n (n (f 1388640872) 1388641127 (f 1392640363)) 1392649066 (n (f 1392649577) 1392650090 e)) 1392655208 (n (n (f 1393049962) 1393058665 e) 1393059176 (n (f 1393059689) 1393064807 e))))) 1393090924 (n (n (n (n (n (f 1393099627) 1393100138 (f 1393100651)) 1393105769 (n (f 1393541483) 1393550186 e)) 1393550697 (n (n (f 1393551210) 1393556328 e) 1395179881 (n (f 1395188584) 1395189095 e))) 1395189608 (n (n (n (f 1395194726) 1835950474 (f 1835950537)) 1835950983 (n (f 1835951046) 1835959177 e)) 1835959240 (n (n (f 1835965831) 1835965894 e) 1836032456 (n (f 1836032965) 1836041159 e)))) 1836047813 (n (n (n (n (f 1842504073) 1842504136 (f 1842504582)) 1842504645 (n (f 1842512776) 1842512839 e)) 1842513287 (n (n (f 1842513350) 1842513800 e) 1842513863 (n (f 1842519430) 1842519493 e))) 1842586055 (n (n (n (f 1842586564) 1842594758 e) 1842595269 (n (f 1842595782) 1842601412 e)) 1845780872 (n (n (f 1845780935) 1845781381 e) 1845781444 (n (f 1845789575) 1845789638 e)))))))) 1845790086 (n (n (n (n (n (n (n (n (f 1845790149) 1845790599 (f 1845790662)) 1845796229 (n (f 1845796292) 1845862854 e)) 1845863363 (n (n (f 1845871557) 1845872068 e) 1845872581 (n (f 1845878211) 1849057675 e))) 1849057738 (n (n (n (f 1849058184) 1849058247 (f 1849066378)) 1849066441 (n (f 1849066889) 1849066952 e)) 1849067402 (n (n (f 1849067465) 1849073032 e) 1849073095 (n (f 1849139657) 1849140166 e)))) 1849148360 (n (n (n (n (f 1849148871) 1849149384 (f 1849155014)) 1852334474 (n (f 1852334537) 1852343177 e)) 1852343240 (n (n (f 1852343688) 1852343751 e) 1852344201 (n (f 1852344264) 1852349831 e))) 1852349894 (n (n (n (f 1852416456) 1852425159 (f 1852425670)) 1852426183 (n (f 1852431813) 1858888071 e)) 1858888134 (n (n (f 1858888580) 1858888643 e) 1858896774 (n (f 1858896837) 1858897285 e))))) 1858897348 (n (n (n (n (n (f 1858897798) 1858897861 (f 1858903428)) 1858903491 (n (f 1858970053) 1858970562 e)) 1858978756 (n (n (f 1858979267) 1858979780 e) 1858985410 (n (f 1862164902) 1862165411 e))) 1862173605 (n (n (n (f 1862174116) 1862174629 (f 1862180259)) 1862205861 (n (f 1862206370) 1862214564 e)) 1862215075 (n (n (f 1862215588) 1862221218 e) 1864253860 (n (f 1864254369) 1864262563 e)))) 1864263074 (n (n (n (n (f 1864263587) 1864269217 (f 1885102983)) 1885103046 (n (f 1885111177) 1885111240 e)) 1885111688 (n (n (f 1885111751) 1885112201 e) 1885112264 (n (f 1885117831) 1885117894 e))) 1885184965 (n (n (n (f 1885193159) 1885193670 e) 1885194183 (n (f 1885199813) 1921147273 e)) 1921147336 (n (n (f 1921147782) 1921147845 e) 1921155976 (n (f 1921156039) 1921156487 e)))))) 1921156550 (n (n (n (n (n (n (f 1921157000) 1921157063 (f 1921162630)) 1921162693 (n (f 1921229255) 1921229764 e)) 1921237958 (n (n (f 1921238469) 1921238982 e) 1921244612 (n (f 1937531333) 1937531842 e))) 1937540036 (n (n (n (f 1937540547) 1937541060 (f 1937546690)) 1937613252 (n (f 1937613761) 1937621955 e)) 1937622466 (n (n (f 1937622979) 1937628609 e) 2173050984 (n (f 2173051239) 2173059687 e)))) 2173059942 (n (n (n (n (f 2173060198) 2173060453 (f 2173060711)) 2173060966 (n (f 2173065831) 2173066086 e)) 2173092069 (n (n (f 2173100772) 2173101283 e) 2173101796 (n (f 2173106916) 2173133158 e))) 2173141861 (n (n (n (f 2173142372) 2173142885 (f 2173148005)) 2179604838 (n (f 2179613541) 2179614052 e)) 2179614565 (n (n (f 2179619685) 2179686757 e) 2179695460 (n (f 2179695971) 2179696484 e))))) 2179701604 (n (n (n (n (n (f 2196029668) 2196038371 (f 2196038882)) 2196039395 (n (f 2196044515) 2565744743 e)) 2565744998 (n (n (f 2565745381) 2565746021 e) 2566154342 (n (f 2566154597) 2566154980 e))) 2566155620 (n (n (n (f 2566195304) 2566195559 (f 2566195942)) 2566196582 (n (f 2566645863) 2566646118 e)) 2566646501 (n (n (f 2566647141) 2568284263 e) 2568284518 (n (f 2568284901) 2568285541 e)))) 2572298597 (n (n (n (n (f 2572299620) 2572708196 (f 2572709219)) 2572749158 (n (f 2572750181) 2573199717 e)) 2573200740 (n (n (f 2574838117) 2574839140 e) 2588682980 (n (f 2589092579) 2589133541 e))) 2589584100 (n (n (n (f 2591222500) 2830761185 e) 2853683683 (n (f 2853684192) 2853692386 e)) 2853692897 (n (n (f 2853693410) 2853698784 e) 2853699040 (n (f 2961817828) 2961826531 e))))))) 2961827042 (n (n (n (n (n (n (n (f 2961827555) 2961832675 (f 2961833185)) 2984755427 (n (f 2984764130) 2984764641 e)) 2984765154 (n (n (f 2984770274) 2984770784 e) 3113902501 (n (f 3113903010) 3113911204 e))) 3113911715 (n (n (n (f 3113912228) 3113917858 (f 3113943460)) 3113943969 (n (f 3113952163) 3113952674 e)) 3113953187 (n (n (f 3113958817) 3115991459 e) 3115991968 (n (f 3116000162) 3116000673 e)))) 3116001186 (n (n (n (n (f 3116006816) 3155272165 (f 3155272674)) 3155280868 (n (f 3155281379) 3155281892 e)) 3155287522 (n (n (f 3158548964) 3158549473 e) 3158557667 (n (f 3158558178) 3158558691 e))) 3158564321 (n (n (n (f 3161825767) 3161826276 (f 3161834470)) 3161834981 (n (f 3161835494) 3161841124 e)) 3165102566 (n (n (f 3165111269) 3165111780 e) 3165112293 (n (f 3165117923) 3168394722 e))))) 3197871075 (n (n (n (n (n (f 3197879269) 3197879780 (f 3197880293)) 3197885923 (n (f 3201147365) 3201156068 e)) 3201156579 (n (n (f 3201157092) 3201162722 e) 3233915365 (n (f 3233915874) 3233924068 e))) 3233924579 (n (n (n (f 3233925092) 3233930722 (f 3250299363)) 3250299872 (n (f 3250308066) 3250308577 e)) 3250309090 (n (n (f 3250314720) 3745398628 e) 3745808227 (n (f 3745849189) 3746299748 e)))) 3747938148 (n (n (n (n (f 3748290917) 3748299620 (f 3748300131)) 3748300644 (n (f 3748305764) 3748306786 e)) 3751952227 (n (n (f 3752361826) 3752402788 e) 3752853347 (n (f 3754491747) 3754844516 e))) 3754853219 (n (n (n (f 3754853730) 3754854243 e) 3754859363 (n (f 3754860385) 3774873957 e)) 3774882660 (n (n (f 3774883171) 3774883684 e) 3774884196 (n (f 3774885219) 3774888804 e)))))) 3774889826 (n (n (n (n (n (n (f 3775283556) 3775292259 (f 3775292770)) 3775293283 (n (f 3775293795) 3775294818 e)) 3775298403 (n (n (f 3775299425) 3775324518 e) 3775333221 (n (f 3775333732) 3775334245 e))) 3775334757 (n (n (n (f 3775335780) 3775339365 (f 3775340387)) 3775406437 (n (f 3775415140) 3775415651 e)) 3775416164 (n (n (f 3775421284) 3775422306 e) 3775488356 (n (f 3775497059) 3775497570 e)))) 3775498083 (n (n (n (n (f 3775503203) 3775504225 (f 3775775077)) 3775783780 (n (f 3775784291) 3775784804 e)) 3775785316 (n (n (f 3775786339) 3775789924 e) 3775790946 (n (f 3777413477) 3777422180 e))) 3777422691 (n (n (n (f 3777423204) 3777423716 (f 3777424739)) 3777428324 (n (f 3777429346) 3777782115 e)) 3777790818 (n (n (f 3777791329) 3777791842 e) 3777792354 (n (f 3777793377) 3777796962 e))))) 3777797984 (n (n (n (n (n (f 4197253574) 4197254083 (f 4197262277)) 4197268931 (n (f 4203807173) 4203807682 e)) 4203815876 (n (n (f 4203816387) 4203816900 e) 4203822530 (n (f 4207083972) 4207084481 e))) 4207092675 (n (n (n (f 4207093186) 4207093699 (f 4207099329)) 4210360775 (n (f 4210361284) 4210369478 e)) 4210369989 (n (n (f 4210370502) 4210376132 e) 4213637574 (n (f 4213646277) 4213646788 e)))) 4213647301 (n (n (n (n (f 4213652931) 4220191172 (f 4220191681)) 4220199875 (n (f 4220200386) 4220200899 e)) 4220206529 (n (n (f 4246406083) 4246414277 e) 4246414788 (n (f 4246415301) 4246420931 e))) 4282450373 (n (n (n (f 4282450882) 4282459076 e) 4282459587 (n (f 4282460100) 4282465730 e)) 4298834371 (n (n (f 4298834880) 4298843074 e) 4298843585 (n (f 4298844098) 4298849728 e)))))))))
def ways:Wt:=codes.wt
def In (x:Lc):Prop:=ways.mem x=true
theorem In.fact {x:Lc} (h:In x) (p:Lc→Bool) (hp:ways.all p=true):p x=true:=Wt.all_at hp h
theorem In.imp {x:Lc} (h:In x) (a b:Lc→Bool) (hp:ways.all (fun x=>cond (a x) (b x) true)=true) (F:a x=true):b x=true:=by
 have:=Wt.all_at hp h;rw [F] at this;exact this
theorem In.go {x:Lc} (h:In x) (a:Lc→Bool) (f:Lc→Lc) (hp:ways.all (fun x=>cond (a x) (ways.mem (f x)) true)=true) (F:a x=true):In (f x):=by
 have:=Wt.all_at hp h;rw [F] at this;exact this
theorem QT {a b:Nat} (h:a≠b):Nat.beq a b=false:=by
 cases F:Nat.beq a b with
 | true=>exact absurd (Nat.eq_of_beq_eq_true F) h
 | false=>rfl
theorem Ve:In ⟨0,0,0,0,0,3,3⟩:=by unfold In;kernel_rfl
theorem Vf:In ⟨0,0,0,0,1,3,3⟩:=by unfold In;kernel_rfl
theorem In.s_take {x:Lc} (G:In x) (F:x.sp=0):In { x with sp:=2 }:=G.go (fun x=>Nat.beq x.sp 0) (fun x=>{ x with sp:=2 }) bH gN
theorem In.s_lay {x:Lc} (G:In x) (F:x.sp=2):In { x with sp:=3 }:=G.go (fun x=>Nat.beq x.sp 2) (fun x=>{ x with sp:=3 }) bH gN
theorem In.s_look0 {x:Lc} (G:In x) (F:x.sp=3) (h1:x.s=0):In { x with sp:=4 }:=G.go (fun x=>Nat.beq x.sp 3 && Nat.beq x.s 0) (fun x=>{ x with sp:=4 }) bH eu
theorem In.s_look1 {x:Lc} (G:In x) (F:x.sp=3) (h1:x.s=1):In { x with sp:=6 }:=G.go (fun x=>Nat.beq x.sp 3 && Nat.beq x.s 1) (fun x=>{ x with sp:=6 }) bH eu
theorem In.s_look4 {x:Lc} (G:In x) (F:x.sp=3) (h1:x.s=4):In { x with sp:=7 }:=G.go (fun x=>Nat.beq x.sp 3 && Nat.beq x.s 4) (fun x=>{ x with sp:=7 }) bH eu
theorem In.s_look8 {x:Lc} (G:In x) (F:x.sp=3) (h1:x.s=8):In { x with sp:=31 }:=G.go (fun x=>Nat.beq x.sp 3 && Nat.beq x.s 8) (fun x=>{ x with sp:=31 }) bH eu
theorem In.s_look10 {x:Lc} (G:In x) (F:x.sp=3) (h1:x.s=10):In { x with sp:=31 }:=G.go (fun x=>Nat.beq x.sp 3 && Nat.beq x.s 10) (fun x=>{ x with sp:=31 }) bH eu
theorem In.s_endo {x:Lc} (G:In x) (F:x.sp=4) (h1:x.gp=0):In { x with sp:=5 }:=G.go (fun x=>Nat.beq x.sp 4 && Nat.beq x.gp 0) (fun x=>{ x with sp:=5 }) bH eu
theorem In.s_endi {x:Lc} (G:In x) (F:x.sp=4) (h1:x.gp≠0):In { x with sp:=15 }:=G.go (fun x=>Nat.beq x.sp 4 && !(Nat.beq x.gp 0)) (fun x=>{ x with sp:=15 }) bH iB
theorem In.s_come0 {x:Lc} (G:In x) (F:x.sp=5) (h1:x.rp=0):In { x with sp:=16 }:=G.go (fun x=>Nat.beq x.sp 5 && Nat.beq x.rp 0) (fun x=>{ x with sp:=16 }) bH eu
theorem In.s_come1 {x:Lc} (G:In x) (F:x.sp=5) (h1:x.rp≠0):In { x with sp:=26 }:=G.go (fun x=>Nat.beq x.sp 5 && !(Nat.beq x.rp 0)) (fun x=>{ x with sp:=26 }) bH iB
theorem In.s_comek {x:Lc} (G:In x) (F:x.sp=15):In { x with sp:=26 }:=G.go (fun x=>Nat.beq x.sp 15) (fun x=>{ x with sp:=26 }) bH gN
theorem In.s_keep1 {x:Lc} (G:In x) (F:x.sp=6) (h1:x.s=1):In { x with s:=2,wt:=0,sp:=30 }:=G.go (fun x=>Nat.beq x.sp 6 && Nat.beq x.s 1) (fun x=>{ x with s:=2,wt:=0,sp:=30 }) bH eu
theorem In.s_lost1 {x:Lc} (G:In x) (F:x.sp=6) (h1:x.s≠1):In { x with sp:=3 }:=G.go (fun x=>Nat.beq x.sp 6 && !(Nat.beq x.s 1)) (fun x=>{ x with sp:=3 }) bH iB
theorem In.s_keepk {x:Lc} (G:In x) (F:x.sp=26) (h1:x.s=0):In { x with s:=2,wt:=0,sp:=30 }:=G.go (fun x=>Nat.beq x.sp 26 && Nat.beq x.s 0) (fun x=>{ x with s:=2,wt:=0,sp:=30 }) bH eu
theorem In.s_lostk {x:Lc} (G:In x) (F:x.sp=26) (h1:x.s≠0):In { x with sp:=3 }:=G.go (fun x=>Nat.beq x.sp 26 && !(Nat.beq x.s 0)) (fun x=>{ x with sp:=3 }) bH iB
theorem In.s_wait {x:Lc} (G:In x) (F:x.sp=16) (h1:x.s=0):In { x with s:=3,wt:=1,sp:=23,sw:=0 }:=G.go (fun x=>Nat.beq x.sp 16 && Nat.beq x.s 0) (fun x=>{ x with s:=3,wt:=1,sp:=23,sw:=0 }) bH eu
theorem In.s_lost0 {x:Lc} (G:In x) (F:x.sp=16) (h1:x.s≠0):In { x with sp:=3 }:=G.go (fun x=>Nat.beq x.sp 16 && !(Nat.beq x.s 0)) (fun x=>{ x with sp:=3 }) bH iB
theorem In.s_call {x:Lc} (G:In x) (F:x.sp=7) (h1:x.rw=0):In { x with sp:=8,rw:=1 }:=G.go (fun x=>Nat.beq x.sp 7 && Nat.beq x.rw 0) (fun x=>{ x with sp:=8,rw:=1 }) bH eu
theorem In.s_callno {x:Lc} (G:In x) (F:x.sp=7) (h1:x.rw≠0):In { x with sp:=31 }:=G.go (fun x=>Nat.beq x.sp 7 && !(Nat.beq x.rw 0)) (fun x=>{ x with sp:=31 }) bH iB
theorem In.s_done {x:Lc} (G:In x) (F:x.sp=8):In { x with s:=7,sp:=30 }:=G.go (fun x=>Nat.beq x.sp 8) (fun x=>{ x with s:=7,sp:=30 }) bH gN
theorem In.s_called {x:Lc} (G:In x) (F:x.sp=23) (h1:x.sw=1):In { x with sp:=30 }:=G.go (fun x=>Nat.beq x.sp 23 && Nat.beq x.sw 1) (fun x=>{ x with sp:=30 }) bH eu
theorem In.s_stopped {x:Lc} (G:In x) (F:x.sp=23) (h1:x.sw=2):In { x with sp:=25 }:=G.go (fun x=>Nat.beq x.sp 23 && Nat.beq x.sw 2) (fun x=>{ x with sp:=25 }) bH eu
theorem In.s_stop {x:Lc} (G:In x) (F:x.sp=23) (h1:x.sw=0):In { x with sw:=2 }:=G.go (fun x=>Nat.beq x.sp 23 && Nat.beq x.sw 0) (fun x=>{ x with sw:=2 }) bH eu
theorem In.s_mark {x:Lc} (G:In x) (F:x.sp=25):In { x with s:=9,sp:=32 }:=G.go (fun x=>Nat.beq x.sp 25) (fun x=>{ x with s:=9,sp:=32 }) bH gN
theorem In.r_take {x:Lc} (G:In x) (F:x.rp=0):In { x with rp:=10 }:=G.go (fun x=>Nat.beq x.rp 0) (fun x=>{ x with rp:=10 }) bH gN
theorem In.r_view0 {x:Lc} (G:In x) (F:x.rp=10) (h1:x.s=0):In { x with rp:=11 }:=G.go (fun x=>Nat.beq x.rp 10 && Nat.beq x.s 0) (fun x=>{ x with rp:=11 }) bH eu
theorem In.r_view1 {x:Lc} (G:In x) (F:x.rp=10) (h1:x.s=1):In { x with rp:=21 }:=G.go (fun x=>Nat.beq x.rp 10 && Nat.beq x.s 1) (fun x=>{ x with rp:=21 }) bH eu
theorem In.r_view2 {x:Lc} (G:In x) (F:x.rp=10) (h1:x.s=2):In { x with rp:=52 }:=G.go (fun x=>Nat.beq x.rp 10 && Nat.beq x.s 2) (fun x=>{ x with rp:=52 }) bH eu
theorem In.r_view3 {x:Lc} (G:In x) (F:x.rp=10) (h1:x.s=3):In { x with rp:=62 }:=G.go (fun x=>Nat.beq x.rp 10 && Nat.beq x.s 3) (fun x=>{ x with rp:=62 }) bH eu
theorem In.r_view9 {x:Lc} (G:In x) (F:x.rp=10) (h1:x.s=9):In { x with rp:=71 }:=G.go (fun x=>Nat.beq x.rp 10 && Nat.beq x.s 9) (fun x=>{ x with rp:=71 }) bH eu
theorem In.r_sent00 {x:Lc} (G:In x) (F:x.rp=11) (h1:x.sp=0):In { x with rp:=12 }:=G.go (fun x=>Nat.beq x.rp 11 && Nat.beq x.sp 0) (fun x=>{ x with rp:=12 }) bH eu
theorem In.r_sent01 {x:Lc} (G:In x) (F:x.rp=11) (h1:x.sp≠0):In { x with rp:=22 }:=G.go (fun x=>Nat.beq x.rp 11 && !(Nat.beq x.sp 0)) (fun x=>{ x with rp:=22 }) bH iB
theorem In.r_sent10 {x:Lc} (G:In x) (F:x.rp=21) (h1:x.sp=0):In { x with rp:=32 }:=G.go (fun x=>Nat.beq x.rp 21 && Nat.beq x.sp 0) (fun x=>{ x with rp:=32 }) bH eu
theorem In.r_sent11 {x:Lc} (G:In x) (F:x.rp=21) (h1:x.sp≠0):In { x with rp:=42 }:=G.go (fun x=>Nat.beq x.rp 21 && !(Nat.beq x.sp 0)) (fun x=>{ x with rp:=42 }) bH iB
theorem In.r_take2 {x:Lc} (G:In x) (F:x.rp=52) (h1:x.s=2):In { x with s:=7,wt:=0,rp:=70 }:=G.go (fun x=>Nat.beq x.rp 52 && Nat.beq x.s 2) (fun x=>{ x with s:=7,wt:=0,rp:=70 }) bH eu
theorem In.r_lost2 {x:Lc} (G:In x) (F:x.rp=52) (h1:x.s≠2):In { x with rp:=10 }:=G.go (fun x=>Nat.beq x.rp 52 && !(Nat.beq x.s 2)) (fun x=>{ x with rp:=10 }) bH iB
theorem In.r_take3 {x:Lc} (G:In x) (F:x.rp=62) (h1:x.s=3):In { x with s:=5,rp:=13 }:=G.go (fun x=>Nat.beq x.rp 62 && Nat.beq x.s 3) (fun x=>{ x with s:=5,rp:=13 }) bH eu
theorem In.r_lost3 {x:Lc} (G:In x) (F:x.rp=62) (h1:x.s≠3):In { x with rp:=10 }:=G.go (fun x=>Nat.beq x.rp 62 && !(Nat.beq x.s 3)) (fun x=>{ x with rp:=10 }) bH iB
theorem In.r_wait0 {x:Lc} (G:In x) (F:x.rp=12) (h1:x.s=0):In { x with s:=4,wt:=2,rp:=23,rw:=0 }:=G.go (fun x=>Nat.beq x.rp 12 && Nat.beq x.s 0) (fun x=>{ x with s:=4,wt:=2,rp:=23,rw:=0 }) bH eu
theorem In.r_lost00 {x:Lc} (G:In x) (F:x.rp=12) (h1:x.s≠0):In { x with rp:=10 }:=G.go (fun x=>Nat.beq x.rp 12 && !(Nat.beq x.s 0)) (fun x=>{ x with rp:=10 }) bH iB
theorem In.r_poi0 {x:Lc} (G:In x) (F:x.rp=22) (h1:x.s=0):In { x with s:=8,wt:=0,rp:=73 }:=G.go (fun x=>Nat.beq x.rp 22 && Nat.beq x.s 0) (fun x=>{ x with s:=8,wt:=0,rp:=73 }) bH eu
theorem In.r_lost01 {x:Lc} (G:In x) (F:x.rp=22) (h1:x.s≠0):In { x with rp:=10 }:=G.go (fun x=>Nat.beq x.rp 22 && !(Nat.beq x.s 0)) (fun x=>{ x with rp:=10 }) bH iB
theorem In.r_wait1 {x:Lc} (G:In x) (F:x.rp=32) (h1:x.s=1):In { x with s:=4,wt:=2,rp:=23,rw:=0 }:=G.go (fun x=>Nat.beq x.rp 32 && Nat.beq x.s 1) (fun x=>{ x with s:=4,wt:=2,rp:=23,rw:=0 }) bH eu
theorem In.r_lost10 {x:Lc} (G:In x) (F:x.rp=32) (h1:x.s≠1):In { x with rp:=10 }:=G.go (fun x=>Nat.beq x.rp 32 && !(Nat.beq x.s 1)) (fun x=>{ x with rp:=10 }) bH iB
theorem In.r_poi1 {x:Lc} (G:In x) (F:x.rp=42) (h1:x.s=1):In { x with s:=8,wt:=0,rp:=73 }:=G.go (fun x=>Nat.beq x.rp 42 && Nat.beq x.s 1) (fun x=>{ x with s:=8,wt:=0,rp:=73 }) bH eu
theorem In.r_lost11 {x:Lc} (G:In x) (F:x.rp=42) (h1:x.s≠1):In { x with rp:=10 }:=G.go (fun x=>Nat.beq x.rp 42 && !(Nat.beq x.s 1)) (fun x=>{ x with rp:=10 }) bH iB
theorem In.r_wake {x:Lc} (G:In x) (F:x.rp=13) (h1:x.sw=0):In { x with sw:=1,rp:=14 }:=G.go (fun x=>Nat.beq x.rp 13 && Nat.beq x.sw 0) (fun x=>{ x with sw:=1,rp:=14 }) bH eu
theorem In.r_wakeno {x:Lc} (G:In x) (F:x.rp=13) (h1:x.sw≠0):In { x with rp:=15 }:=G.go (fun x=>Nat.beq x.rp 13 && !(Nat.beq x.sw 0)) (fun x=>{ x with rp:=15 }) bH iB
theorem In.r_fin {x:Lc} (G:In x) (F:x.rp=14):In { x with s:=7,rp:=70 }:=G.go (fun x=>Nat.beq x.rp 14) (fun x=>{ x with s:=7,rp:=70 }) bH gN
theorem In.r_fail {x:Lc} (G:In x) (F:x.rp=15):In { x with s:=9,rp:=71 }:=G.go (fun x=>Nat.beq x.rp 15) (fun x=>{ x with s:=9,rp:=71 }) bH gN
theorem In.r_called {x:Lc} (G:In x) (F:x.rp=23) (h1:x.rw=1):In { x with rp:=24 }:=G.go (fun x=>Nat.beq x.rp 23 && Nat.beq x.rw 1) (fun x=>{ x with rp:=24 }) bH eu
theorem In.r_stopped {x:Lc} (G:In x) (F:x.rp=23) (h1:x.rw=2):In { x with rp:=25 }:=G.go (fun x=>Nat.beq x.rp 23 && Nat.beq x.rw 2) (fun x=>{ x with rp:=25 }) bH eu
theorem In.r_stop {x:Lc} (G:In x) (F:x.rp=23) (h1:x.rw=0):In { x with rw:=2 }:=G.go (fun x=>Nat.beq x.rp 23 && Nat.beq x.rw 0) (fun x=>{ x with rw:=2 }) bH eu
theorem In.r_fetch {x:Lc} (G:In x) (F:x.rp=24):In { x with rp:=74 }:=G.go (fun x=>Nat.beq x.rp 24) (fun x=>{ x with rp:=74 }) bH gN
theorem In.r_mark {x:Lc} (G:In x) (F:x.rp=25):In { x with s:=10,rp:=72 }:=G.go (fun x=>Nat.beq x.rp 25) (fun x=>{ x with s:=10,rp:=72 }) bH gN
theorem In.g_take {x:Lc} (G:In x) (F:x.gp=0):In { x with gp:=17 }:=G.go (fun x=>Nat.beq x.gp 0) (fun x=>{ x with gp:=17 }) bH gN
theorem In.g_far0 {x:Lc} (G:In x) (F:x.gp=17) (h1:x.sp=0):In { x with gp:=30 }:=G.go (fun x=>Nat.beq x.gp 17 && Nat.beq x.sp 0) (fun x=>{ x with gp:=30 }) bH eu
theorem In.g_far1 {x:Lc} (G:In x) (F:x.gp=17) (h1:x.sp≠0):In { x with gp:=18 }:=G.go (fun x=>Nat.beq x.gp 17 && !(Nat.beq x.sp 0)) (fun x=>{ x with gp:=18 }) bH iB
theorem In.g_meet0 {x:Lc} (G:In x) (F:x.gp=18) (h1:x.s=0):In { x with gp:=19 }:=G.go (fun x=>Nat.beq x.gp 18 && Nat.beq x.s 0) (fun x=>{ x with gp:=19 }) bH eu
theorem In.g_meet3 {x:Lc} (G:In x) (F:x.gp=18) (h1:x.s=3):In { x with gp:=29 }:=G.go (fun x=>Nat.beq x.gp 18 && Nat.beq x.s 3) (fun x=>{ x with gp:=29 }) bH eu
theorem In.g_meet9 {x:Lc} (G:In x) (F:x.gp=18) (h1:x.s=9):In { x with gp:=31 }:=G.go (fun x=>Nat.beq x.gp 18 && Nat.beq x.s 9) (fun x=>{ x with gp:=31 }) bH eu
theorem In.g_meetd {x:Lc} (G:In x) (F:x.gp=18) (h1:x.s≠0∧x.s≠3∧x.s≠9∧x.s≠5):In { x with gp:=30 }:=G.go (fun x=>Nat.beq x.gp 18 && (!(Nat.beq x.s 0) && !(Nat.beq x.s 3) && !(Nat.beq x.s 9) && !(Nat.beq x.s 5))) (fun x=>{ x with gp:=30 }) bH (by simp [F,QT h1.1,QT h1.2.1,QT h1.2.2.1,QT h1.2.2.2])
theorem In.g_in {x:Lc} (G:In x) (F:x.gp=19) (h1:x.s=0):In { x with s:=1,wt:=0,gp:=30 }:=G.go (fun x=>Nat.beq x.gp 19 && Nat.beq x.s 0) (fun x=>{ x with s:=1,wt:=0,gp:=30 }) bH eu
theorem In.g_lost0 {x:Lc} (G:In x) (F:x.gp=19) (h1:x.s≠0):In { x with gp:=18 }:=G.go (fun x=>Nat.beq x.gp 19 && !(Nat.beq x.s 0)) (fun x=>{ x with gp:=18 }) bH iB
theorem In.g_grow {x:Lc} (G:In x) (F:x.gp=29) (h1:x.s=3):In { x with s:=6,gp:=20 }:=G.go (fun x=>Nat.beq x.gp 29 && Nat.beq x.s 3) (fun x=>{ x with s:=6,gp:=20 }) bH eu
theorem In.g_lost3 {x:Lc} (G:In x) (F:x.gp=29) (h1:x.s≠3):In { x with gp:=18 }:=G.go (fun x=>Nat.beq x.gp 29 && !(Nat.beq x.s 3)) (fun x=>{ x with gp:=18 }) bH iB
theorem In.g_raise {x:Lc} (G:In x) (F:x.gp=20) (h1:x.sw=0):In { x with sw:=1,gp:=21 }:=G.go (fun x=>Nat.beq x.gp 20 && Nat.beq x.sw 0) (fun x=>{ x with sw:=1,gp:=21 }) bH eu
theorem In.g_raiseno {x:Lc} (G:In x) (F:x.gp=20) (h1:x.sw≠0):In { x with gp:=22 }:=G.go (fun x=>Nat.beq x.gp 20 && !(Nat.beq x.sw 0)) (fun x=>{ x with gp:=22 }) bH iB
theorem In.g_keep {x:Lc} (G:In x) (F:x.gp=21):In { x with s:=2,gp:=30 }:=G.go (fun x=>Nat.beq x.gp 21) (fun x=>{ x with s:=2,gp:=30 }) bH gN
theorem In.g_lose {x:Lc} (G:In x) (F:x.gp=22):In { x with s:=9,gp:=31 }:=G.go (fun x=>Nat.beq x.gp 22) (fun x=>{ x with s:=9,gp:=31 }) bH gN
end
end Go.Proofs.YtffhjmepfojhnaaGreat
