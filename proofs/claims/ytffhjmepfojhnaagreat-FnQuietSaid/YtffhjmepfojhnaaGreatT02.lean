/-
  The reference model's functions of chapter 5, on hands that are kept whole; no condition.
-/
import Derived.Test.YtffhjmepfojhnaaGreatT01
import Derived.BigRegion
import Derived.Laws.CopyOwn
set_option maxRecDepth 100000
set_option maxHeartbeats 2000000
set_option linter.unusedSimpArgs false
set_option linter.unusedVariables false
namespace Go.Proofs.YtffhjmepfojhnaaGreat
open _root_.Go.Proofs.Tryz
section
open Go.RowKit
attribute [local go_sem ↓] dA dO dP dW bK
theorem jI (h:Ha) (w:World):Calls prog 119 #[.agg (aB h)] w fun r w'=>r=.returned (.bool (aU h))∧Below w w w':=by
 go_enter func119,ntmps119
 go_wp2_with (first|(go_at_call 121;refine (iP _ _ _ _).mono ?_;rintro _ _ ⟨rfl,rfl⟩)|(go_at_call 171;refine (yB _ _).mono ?_;rintro _ _ ⟨rfl,rfl⟩)|(go_at_call 122;refine (p8 _ _).mono ?_;rintro _ _ ⟨rfl,rfl⟩)|(go_at_call 161;refine (tL _ _).mono ?_;rintro _ _ ⟨rfl,rfl⟩)|(go_at_call 170;refine aK w zB fun I=>?_;refine (nX _ _ _).mono ?_;rintro _ L ⟨rfl,F⟩;obtain ⟨J,G,H⟩:=VC I F (b:=w);(try simp at G);(try simp [go_sem] at H);replace K:=OH H;clear H F I)|(go_at_call 169;refine aK w zB fun I=>?_;refine (Ae _ _ _).mono ?_;rintro _ L ⟨rfl,F⟩;obtain ⟨J,G,H⟩:=VC I F (b:=w);(try simp at G);(first|simp [go_sem,K] at H|simp [go_sem] at H|skip);replace K:=OH H;clear H F I))
 all_goals go_ret
 all_goals exact ⟨bQ (by simp_all [aU,oG,sI,yC]),zB⟩
theorem iy (x o:Int) (w:World):Calls prog 130 #[.int .i64 x,.int .i64 o] w fun r w'=>r=.returned (.agg (aB (aM x o)))∧Below w w w':=by
 go_enter func130,ntmps130
 go_wp2;refine bodyPost_ret (jY results130 rfl (aQ (aM x o) yo)) rfl ⟨rfl,zB⟩
theorem yD (k e b:Int) (w:World):Calls prog 194 #[.agg #[.int .i64 k,.int .i64 e],.int .i64 b] w fun r w'=>r=.returned (.agg (aB (begun k e b)))∧Below w w w':=by
 by_cases h:k=2
 ·subst h
  go_enter func194,ntmps194
  go_wp2;refine bodyPost_ret (jY results194 rfl (aQ (begun 2 e b) yo)) rfl ⟨rfl,zB⟩
 ·have F:begun k e b=⟨1,k,e,0,0,0,0,0,0,0,0,b,0,0⟩:=by simp [begun,h]
  rw [F];have h2:(k == 2)=false:=by simpa using h
  clear h;go_enter func194,ntmps194;go_wp2;refine bodyPost_ret (jY results194 rfl (aQ ⟨1,k,e,0,0,0,0,0,0,0,0,b,0,0⟩ yo)) rfl ⟨rfl,zB⟩
theorem nD (h:Ha) (w:World):Calls prog 207 #[.agg (aB h)] w fun r w'=>r=.returned (.agg (aB (begun h.code h.elem h.beg)))∧Below w w w':=by
 go_enter func207,ntmps207
 go_wp2_with fail;refine aK w zB fun I=>?_;refine (yD h.code h.elem h.beg _).mono ?_;rintro _ L ⟨rfl,F⟩;obtain ⟨J,G,H⟩:=I9 I F (b:=w);(try simp at G);(try simp [go_sem] at H);replace K:=zX H;clear H F I
 go_wp2;refine bodyPost_ret (jY results207 rfl (aQ (begun h.code h.elem h.beg) tZ)) rfl ⟨rfl,zB⟩
theorem yE (h:Ha) (k e:Int) (w:World):Calls prog 176 #[.agg (aB h),.agg #[.int .i64 k,.int .i64 e]] w fun r w'=>r=.returned (.tuple #[.agg (aB (called h k e).1),.int .i64 (called h k e).2])∧Below w w w':=by
 by_cases N:aU h=true
 ·by_cases h1:h.pos=0
  ·by_cases h2:eD k e=true
   ·rw [show called h k e=(begun k e 0,0) by simp [called,N,h1,h2]]
    have n1:(h.pos != 0)=false:=by simp [h1]
    clear h1;go_enter func176,ntmps176;go_wp2_with fail;refine aK w zB fun I=>?_;refine (jI h _).mono ?_;rintro _ U ⟨rfl,F⟩;obtain ⟨K,H,G⟩:=sG I F (b:=w);(try simp at H);(try simp [go_sem] at G);replace M:=pq G;clear G F I
    rw [N];go_wp2_with fail;refine aK w zB fun I=>?_;refine (nX k e _).mono ?_;rintro _ X ⟨rfl,J⟩;obtain ⟨R,L,G⟩:=sG I J (b:=w);(try simp at L);(first|simp [go_sem,M] at G|simp [go_sem] at G|skip);replace M:=pq G;clear G J I
    rw [h2];go_wp2_with fail;refine aK w zB fun I=>?_;refine (yD k e 0 _).mono ?_;rintro _ Y ⟨rfl,O⟩;obtain ⟨V,T,G⟩:=sG I O (b:=w);(try simp at T);(first|simp [go_sem,M] at G|simp [go_sem] at G|skip);replace M:=pq G;clear G O I
    go_wp2;exact bodyPost_ret (jZ results176 rfl (aQ (begun k e 0) tY)) rfl ⟨rfl,zB⟩
   ·have h2':eD k e=false:=by simpa using h2
    rw [show called h k e=(h,2) by simp [called,N,h1,h2']]
    have n1:(h.pos != 0)=false:=by simp [h1]
    clear h1 h2;go_enter func176,ntmps176;go_wp2_with fail;refine aK w zB fun I=>?_;refine (jI h _).mono ?_;rintro _ U ⟨rfl,F⟩;obtain ⟨K,H,G⟩:=sG I F (b:=w);(try simp at H);(try simp [go_sem] at G);replace M:=pq G;clear G F I
    rw [N];go_wp2_with fail;refine aK w zB fun I=>?_;refine (nX k e _).mono ?_;rintro _ X ⟨rfl,J⟩;obtain ⟨R,L,G⟩:=sG I J (b:=w);(try simp at L);(first|simp [go_sem,M] at G|simp [go_sem] at G|skip);replace M:=pq G;clear G J I
    rw [h2'];go_wp2;exact bodyPost_ret (jZ results176 rfl (aQ h tY)) rfl ⟨rfl,zB⟩
  ·rw [show called h k e=(h,1) by simp [called,N,h1]]
   have n1:(h.pos != 0)=true:=by simpa using h1
   clear h1;go_enter func176,ntmps176;go_wp2_with fail;refine aK w zB fun I=>?_;refine (jI h _).mono ?_;rintro _ U ⟨rfl,F⟩;obtain ⟨K,H,G⟩:=sG I F (b:=w);(try simp at H);(try simp [go_sem] at G);replace M:=pq G;clear G F I
   rw [N];go_wp2;exact bodyPost_ret (jZ results176 rfl (aQ h tY)) rfl ⟨rfl,zB⟩
 ·have h0':aU h=false:=by simpa using N
  rw [show called h k e=(Ha.zero,3) by simp [called,h0']]
  clear N;go_enter func176,ntmps176;go_wp2_with fail;refine aK w zB fun I=>?_;refine (jI h _).mono ?_;rintro _ U ⟨rfl,F⟩;obtain ⟨K,H,G⟩:=sG I F (b:=w);(try simp at H);(try simp [go_sem] at G);replace M:=pq G;clear G F I
  rw [h0'];go_wp2;exact bodyPost_ret (jZ results176 rfl (aQ Ha.zero tY)) rfl ⟨rfl,zB⟩
end
section
open Go.RowKit
theorem OZ (w:World):(isAgg 164).run prog w=.ok true w:=by simp [isAgg,go_sem]
theorem RQ (w:World):(sizeOf 164).run prog w=.ok 14 w:=by simp [go_sem]
theorem IB {w:World} {b:Nat} (h:okO 14 (hp w b)=true):(loadVar 164 ⟨b,0,none⟩).run prog w=.ok (.agg (kU (hp w b))) w:=qG OZ RQ h
theorem LF {w:World} {b:Nat} (h:okO 14 (hp w b)=true):(Instr.loadAt 164 (.pointer (some ⟨b,0,none⟩))).run prog w=.ok (.agg (kU (hp w b))) w:=by
 simp only [Instr.loadAt,Instr.sureAddr,Sem.run_bind,Sem.run_pure,Result.andThen_ok,IB h]
def IC (x:Value):Sem Value:=Instr.loadAt 164 x
theorem Pb (x:Value):Instr.loadAt 164 x=IC x:=by unfold IC;simp
theorem LG {w:World} {b:Nat} (h:okO 14 (hp w b)=true):(IC (.pointer (some ⟨b,0,none⟩))).run prog w=.ok (.agg (kU (hp w b))) w:=LF h
theorem Pd (w:World):(isAgg 64).run prog w=.ok true w:=by simp [isAgg,go_sem]
theorem RS (w:World):(sizeOf 64).run prog w=.ok 6 w:=by simp [go_sem]
theorem IE {w:World} {b:Nat} (h:okO 6 (hp w b)=true):(loadVar 64 ⟨b,0,none⟩).run prog w=.ok (.agg (kU (hp w b))) w:=qG Pd RS h
theorem LJ {w:World} {b:Nat} (h:okO 6 (hp w b)=true):(Instr.loadAt 64 (.pointer (some ⟨b,0,none⟩))).run prog w=.ok (.agg (kU (hp w b))) w:=by
 simp only [Instr.loadAt,Instr.sureAddr,Sem.run_bind,Sem.run_pure,Result.andThen_ok,IE h]
def Va (x:Value):Sem Value:=Instr.loadAt 64 x
theorem LK {w:World} {b:Nat} (h:okO 6 (hp w b)=true):(Va (.pointer (some ⟨b,0,none⟩))).run prog w=.ok (.agg (kU (hp w b))) w:=LJ h
attribute [go_sem] LG LK
attribute [local go_sem ↓] dA dO dP dW bK
end
section
open Go.RowKit
theorem F5 {w:World} {lo g n k:Nat} {t:TypeId} {F:List Value} (h:w.heap[g]?=some (.cells F.toArray t (0,0))) (G:F.length=n*k) (H:lo≤g) (I:n≤maxLen):w.ownsRow lo t k (.slice (some ⟨g,0,none⟩) n n) n F :=
 ⟨G,.inr ⟨g,n,F.toArray,rfl,H,h,Nat.le_refl _,I,by simp [G],by simp [← G]⟩⟩
end
end Go.Proofs.YtffhjmepfojhnaaGreat
