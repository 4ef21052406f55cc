/-
  The contracts of the program's functions of chapter 1; no condition but that lists lie in memory.
-/
import Derived.Test.YtffhjmepfojhnaaGreatR01
import Derived.Laws.StructEq
set_option maxRecDepth 100000
set_option maxHeartbeats 400000
set_option linter.unusedSimpArgs false
set_option linter.unusedVariables false
namespace Go.Proofs.YtffhjmepfojhnaaGreat
section
open Go.RowKit
theorem dX (n m:Int) (w:World):Calls Tryz.prog 45 #[.int .i64 n,.int .i64 m] w fun e w'=>e=.returned (.bool (dm n 0 m))∧w=w':=by
 go_enter Tryz.func45,Tryz.ntmps45
 go_wp2
 all_goals go_ret
 ·exact ⟨bF (IC ‹_›),rfl⟩
 ·exact ⟨bF (sQ (.inl ‹_›)).symm,rfl⟩
def Jv (n:Int) (e:Ending):Prop:=∃ s:ByteArray,e=.returned (.string s)∧s.toList.isEmpty=!(dm n 0 10)
theorem Gi {n:Int} (s:ByteArray) (hs:s.data.size≠0) (h1:0≤n) (h2:n≤10):Jv n (.returned (.string s)):=⟨_,rfl,by
 obtain ⟨⟨l⟩⟩:=s
 rw [Lh h1 h2]
 cases l with
 | nil=>simp at hs
 | cons a l=>simp⟩
theorem Jw {n:Int} (h:n<0∨10<n):Jv n (.returned (.string ⟨#[]⟩)):=⟨_,rfl,by rw [sQ h];simp⟩
theorem CV (n:Int) (w:World):Calls Tryz.prog 195 #[.int .i64 n] w fun e w'=>Jv n e∧w=w':=by
 by_cases h:0≤n∧n≤10
 ·have hn:n=0∨n=1∨n=2∨n=3∨n=4∨n=5∨n=6∨n=7∨n=8∨n=9∨n=10:=by omega
  clear h
  rcases hn with rfl|rfl|rfl|rfl|rfl|rfl|rfl|rfl|rfl|rfl|rfl
  all_goals
   go_enter Tryz.func195,Tryz.ntmps195
   go_wp2
   go_ret
   exact ⟨Gi _ (by decide) tO tO,rfl⟩
 ·have h0:(n == 0)=false:=by simp;omega
  have h1:(n == 1)=false:=by simp;omega
  have h2:(n == 2)=false:=by simp;omega
  have h3:(n == 3)=false:=by simp;omega
  have h4:(n == 4)=false:=by simp;omega
  have h5:(n == 5)=false:=by simp;omega
  have h6:(n == 6)=false:=by simp;omega
  have h7:(n == 7)=false:=by simp;omega
  have h8:(n == 8)=false:=by simp;omega
  have h9:(n == 9)=false:=by simp;omega
  have h10:(n == 10)=false:=by simp;omega
  have H:=Lib.hid h
  clear h
  go_enter Tryz.func195,Tryz.ntmps195
  go_wp2
  go_ret
  exact ⟨Jw (by have:=H.out;omega),rfl⟩
theorem ny (s e t:Int) (w:World):Calls Tryz.prog 181 #[.agg #[.int .i64 s,.int .i64 e,.int .i64 t]] w fun r w'=>r=.returned (.bool (jv s e t))∧Below w.heap.size w w':=by
 go_enter Tryz.func181,Tryz.ntmps181
 go_wp2_with (first|(go_at_call 195;refine (CV _ _).mono ?_;rintro r1 w1 ⟨⟨s1,rfl,hs⟩,rfl⟩)|(go_at_call 45;refine (dX _ _ _).mono ?_;rintro _ _ ⟨rfl,rfl⟩))
 all_goals go_ret
 all_goals refine ⟨bF ?_,by exact zB⟩
 ·exact EX ‹_› ‹_›
 ·exact EW ‹_›
 ·exact EU ‹_›
end
section
open Go.RowKit
theorem lH (n:Nat) (who:Int) (B:Nat) (d:Option Addr) (r:Nat) (w:World) (x6:w.cell? ⟨B,6,none⟩=some (.slice d n r)) (hm:n≤1099511627776) :
  Calls Tryz.prog 50 #[.pointer (some ⟨B,0,none⟩),.int .i64 who] w fun r w'=>r=.returned (.bool (kG n who))∧w=w':=by
 go_enter Tryz.func50,Tryz.ntmps50
 go_wp2_with (go_at_call 45;refine (dX _ _ _).mono ?_;rintro _ _ ⟨rfl,rfl⟩)
 go_ret
 exact ⟨rfl,rfl⟩
end
section
open Go.RowKit
def pR (a b:Ha):Bool:=a.pos == b.pos && ((a.code == b.code && a.elem == b.elem) && (a.cell == b.cell && (a.seen == b.seen && (a.wait == b.wait && (a.fin == b.fin && (a.come == b.come && (a.grow == b.grow && (a.mine == b.mine && (a.nxt == b.nxt && (a.beg == b.beg && (a.reply == b.reply && a.out == b.out)))))))))))
theorem Ai (a b:Ha):pR a b=true↔a=b:=by
 obtain ⟨a1,a2,a3,a4,a5,a6,a7,a8,a9,Xd,Xe,a12,Xf,Xg⟩:=a
 obtain ⟨b1,b2,b3,b4,b5,b6,b7,b8,b9,b10,b11,b12,b13,b14⟩:=b
 simp [pR,and_assoc]
theorem Gj (a:Ha):pR a a=true:=(Ai a a).2 rfl
theorem Mk (a b c d:Int) (n:Nat) (w:World):(Op.equalIn (n+1+1) 41 (.agg #[.int .i64 a,.int .i64 b]) (.agg #[.int .i64 c,.int .i64 d])).run Tryz.prog w=.ok (a == c && b == d) w:=by
 have u3:=Tryz.underlying2
 have a3:=Tryz.isAgg2
 have z3:=Tryz.sizeOf2
 have hS:Tryz.prog.underlying 41=some (.struct (Tryz.prog.fieldsOf 41)):=by kernel_rfl
 rw [run_equalIn_agg w (n+1) 41 _ _ hS (by kernel_rfl)]
 simp only [Program.fieldsOf,Tryz.underlying41]
 go_simp
 by_cases h1:a=c <;> by_cases h2:b=d <;> simp [h1,h2]
theorem oI (x y:Ha) (w:World):(Op.equalIn 10000 49 (.agg (aa x)) (.agg (aa y))).run Tryz.prog w=.ok (pR x y) w:=by
 have u3:=Tryz.underlying2
 have a3:=Tryz.isAgg2
 have z3:=Tryz.sizeOf2
 have a4:=Tryz.isAgg41
 have z4:=Tryz.sizeOf41
 have hS:Tryz.prog.underlying 49=some (.struct (Tryz.prog.fieldsOf 49)):=by kernel_rfl
 rw [show (10000:Nat)=9998+1+1 from rfl,run_equalIn_agg w (9998+1) 49 _ _ hS (by kernel_rfl)]
 simp only [Program.fieldsOf,Tryz.underlying49]
 simp [aa,Op.eqFields,go_sem,Mk,pR, *]
 by_cases h0:x.pos=y.pos <;> simp [h0]
 by_cases h1:x.code=y.code <;> simp [h1]
 by_cases h2:x.elem=y.elem <;> simp [h2]
 by_cases h3:x.cell=y.cell <;> simp [h3]
 by_cases h4:x.seen=y.seen <;> simp [h4]
 by_cases h5:x.wait=y.wait <;> simp [h5]
 by_cases h6:x.fin=y.fin <;> simp [h6]
 by_cases h7:x.come=y.come <;> simp [h7]
 by_cases h8:x.grow=y.grow <;> simp [h8]
 by_cases h9:x.mine=y.mine <;> simp [h9]
 by_cases h10:x.nxt=y.nxt <;> simp [h10]
 by_cases h11:x.beg=y.beg <;> simp [h11]
 by_cases h12:x.reply=y.reply <;> simp [h12]
 by_cases OY:x.out=y.out <;> simp [OY]
end
section
open Go.RowKit
def Fq (k:Int):Int:=if k == 1 then 999 else (if k == 2 then 0 else -1)
def Ml (k r:Int):Bool:=if r == 1 then k == 1 else (if r == 2 then k == 2 else (if r == 3 || r == 4 then k == 1 || k == 2 else false))
theorem Aj (k e:Int):dm e 0 (Fq k)=dO k e:=by
 unfold Fq dO
 by_cases h1:k=1
 ·subst h1;simp
 ·by_cases h2:k=2
  ·subst h2
   simp [dm]
   rw [Bool.eq_iff_iff];simp;omega
  ·have:(if k == 1 then (999:Int) else if k == 2 then 0 else -1)=-1:=by simp [h1,h2]
   rw [this,sQ tO]
   simp [h1,h2]
theorem Ak (k e r:Int):(dO k e && Ml k r)=ng k e r:=by
 unfold ng
 by_cases hc:dO k e=true
 ·rw [hc]
  have hk:k=1∨k=2:=by
   simp [dO] at hc
   omega
  simp only [Bool.true_and]
  unfold Ml
  by_cases h1:r=1
  ·subst h1
   rcases hk with rfl|rfl <;> decide
  ·by_cases h2:r=2
   ·subst h2
    rcases hk with rfl|rfl <;> decide
   ·by_cases h3:r=3
    ·subst h3
     rcases hk with rfl|rfl <;> decide
    ·by_cases h4:r=4
     ·subst h4
      rcases hk with rfl|rfl <;> decide
     ·have:dm r 1 4=false:=sQ tO
      simp [h1,h2,h3,h4,this]
 ·simp [NQ hc]
theorem xY (k:Int) (w:World):Calls Tryz.prog 184 #[.int .i64 k] w fun r w'=>r=.returned (.int .i64 (Fq k))∧w=w':=by
 go_enter Tryz.func184,Tryz.ntmps184
 go_wp2
 all_goals go_ret
 all_goals exact ⟨mX (by simp_all [Fq]),rfl⟩
theorem xZ (k x:Int) (w:World):Calls Tryz.prog 182 #[.int .i64 k,.int .i64 x] w fun r w'=>r=.returned (.bool (Ml k x))∧w=w':=by
 go_enter Tryz.func182,Tryz.ntmps182
 go_wp2
 all_goals go_ret
 all_goals exact ⟨bF (by simp_all [Ml]),rfl⟩
theorem xw (k e:Int) (w:World):Calls Tryz.prog 155 #[.agg #[.int .i64 k,.int .i64 e]] w fun r w'=>r=.returned (.agg #[.int .i64 k,.int .i64 e])∧Below w.heap.size w w':=by
 go_enter Tryz.func155,Tryz.ntmps155
 go_wp2
 exact bodyPost_ret (v:=.agg #[.int .i64 k,.int .i64 e]) (by simp [results,Tryz.results155,go_sem, *]) rfl ⟨rfl,by exact zB⟩
theorem rQ (k e:Int) (w:World):Calls Tryz.prog 156 #[.agg #[.int .i64 k,.int .i64 e]] w fun r w'=>r=.returned (.bool (dO k e))∧Below w.heap.size w w':=by
 go_enter Tryz.func156,Tryz.ntmps156
 go_wp2_with fail
 go_region_with (first|(go_at_call 184;refine (xY _ _).mono ?_;rintro _ _ ⟨rfl,rfl⟩)|(go_at_call 45;refine (dX _ _ _).mono ?_;rintro _ _ ⟨rfl,rfl⟩))
 all_goals go_wp2
 all_goals go_ret
 all_goals exact ⟨bF (Aj k e),by exact zB⟩
theorem pU (k e:Int) (w:World):Calls Tryz.prog 103 #[.agg #[.int .i64 k,.int .i64 e]] w fun r w'=>r=.returned (.bool (dO k e))∧Below w.heap.size w w':=by
 go_enter Tryz.func103,Tryz.ntmps103
 go_wp2_with fail;refine (xw _ _ _).mono ?_;rintro _ w1 ⟨rfl,ah⟩;have hBw1:Below w.heap.size w w1:=bT zB ah;have ay:=ah.size;(try (simp at ay));have:=fun o=>ah.cell (p:=⟨w.heap.size,o,none⟩) (by ((try simp);(try omega)));have:=fun o=>ah.frozen (p:=⟨w.heap.size,o,none⟩) (by ((try simp);(try omega)));have:w.heap.size<w1.heap.size:=tO;have:w.heap.size≤w1.heap.size:=tO;have:w.heap.size≤w1.heap.size+1:=tO
 go_wp2_with fail;refine (rQ _ _ _).mono ?_;rintro _ w2 ⟨rfl,hbw2⟩;have hBw2:Below w.heap.size w w2:=bT zB hbw2;have bu:=hbw2.size;(try (simp at bu));have:=fun o=>hbw2.cell (p:=⟨w.heap.size,o,none⟩) (by ((try simp);(try omega)));have:=fun o=>hbw2.frozen (p:=⟨w.heap.size,o,none⟩) (by ((try simp);(try omega)));have:w.heap.size<w2.heap.size:=tO;have:w.heap.size≤w2.heap.size:=tO;have:w.heap.size≤w2.heap.size+1:=tO
 go_wp2
 go_ret
 exact ⟨rfl,by exact zB⟩
theorem Al (k e x:Int) (w:World):Calls Tryz.prog 151 #[.agg #[.int .i64 k,.int .i64 e],.int .i64 x] w fun r w'=>r=.returned (.bool (ng k e x))∧Below w.heap.size w w':=by
 go_enter Tryz.func151,Tryz.ntmps151
 go_wp2_with fail;refine (xw _ _ _).mono ?_;rintro _ w1 ⟨rfl,ah⟩;have hBw1:Below w.heap.size w w1:=bT zB ah;have ay:=ah.size;(try (simp at ay));have:=fun o=>ah.cell (p:=⟨w.heap.size,o,none⟩) (by ((try simp);(try omega)));have:=fun o=>ah.frozen (p:=⟨w.heap.size,o,none⟩) (by ((try simp);(try omega)));have:w.heap.size<w1.heap.size:=tO;have:w.heap.size≤w1.heap.size:=tO;have:w.heap.size≤w1.heap.size+1:=tO
 go_wp2_with fail;refine (rQ _ _ _).mono ?_;rintro _ w2 ⟨rfl,hbw2⟩;have hBw2:Below w.heap.size w w2:=bT zB hbw2;have bu:=hbw2.size;(try (simp at bu));have:=fun o=>hbw2.cell (p:=⟨w.heap.size,o,none⟩) (by ((try simp);(try omega)));have:=fun o=>hbw2.frozen (p:=⟨w.heap.size,o,none⟩) (by ((try simp);(try omega)));have:=fun o=>hbw2.cell (p:=⟨w1.heap.size,o,none⟩) (by ((try simp);(try omega)));have:=fun o=>hbw2.frozen (p:=⟨w1.heap.size,o,none⟩) (by ((try simp);(try omega)));have:w.heap.size<w2.heap.size:=tO;have:w.heap.size≤w2.heap.size:=tO;have:w.heap.size≤w2.heap.size+1:=tO;have:w1.heap.size<w2.heap.size:=tO;have:w1.heap.size≤w2.heap.size:=tO;have:w1.heap.size≤w2.heap.size+1:=tO
 go_wp2_with (go_at_call 182;refine (xZ _ _ _).mono ?_;rintro _ _ ⟨rfl,rfl⟩)
 all_goals go_ret
 all_goals exact ⟨bF (by rw [← Ak];simp_all),by exact zB⟩
end
end Go.Proofs.YtffhjmepfojhnaaGreat
