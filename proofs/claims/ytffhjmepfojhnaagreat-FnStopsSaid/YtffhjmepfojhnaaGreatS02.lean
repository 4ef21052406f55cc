/-
  The reference model's functions of chapter 5, on hands that are kept whole; no condition.
-/
import Derived.Test.YtffhjmepfojhnaaGreatS01
import Derived.BigRegion
set_option maxRecDepth 100000
set_option maxHeartbeats 2000000
set_option linter.unusedSimpArgs false
set_option linter.unusedVariables false
namespace Go.Proofs.YtffhjmepfojhnaaGreat
open _root_.Go.Proofs.Tryz
section
open Go.RowKit
attribute [local go_sem ↓] aQ aY aZ aX aN
theorem iR (h:Ha) (w:World):Calls prog 119 #[.agg (aB h)] w fun r w'=>r=.returned (.bool (bM h))∧Below w w w':=by
 go_enter func119,ntmps119
 go_wp2_with (first|(go_at_call 121;refine (gQ _ _ _ _).mono ?_;rintro _ _ ⟨rfl,rfl⟩)|(go_at_call 171;refine (ui _ _).mono ?_;rintro _ _ ⟨rfl,rfl⟩)|(go_at_call 122;refine (mQ _ _).mono ?_;rintro _ _ ⟨rfl,rfl⟩)|(go_at_call 161;refine (pI _ _).mono ?_;rintro _ _ ⟨rfl,rfl⟩)|(go_at_call 170;refine aK w zB fun y=>?_;refine (ni _ _ _).mono ?_;rintro _ D ⟨rfl,m⟩;obtain ⟨z,q,u⟩:=Rl y m (b:=w);(try simp at q);(try simp [go_sem] at u);replace A:=PD u;clear u m y)|(go_at_call 169;refine aK w zB fun y=>?_;refine (E5 _ _ _).mono ?_;rintro _ D ⟨rfl,m⟩;obtain ⟨z,q,u⟩:=Rl y m (b:=w);(try simp at q);(first|simp [go_sem,A] at u|simp [go_sem] at u|skip);replace A:=PD u;clear u m y))
 all_goals go_ret
 all_goals exact ⟨dB (by simp_all [bM,oV,qy,uj]),by exact zB⟩
theorem gZ (x o:Int) (w:World):Calls prog 130 #[.int .i64 x,.int .i64 o] w fun r w'=>r=.returned (.agg (aB (aV x o)))∧Below w w w':=by
 go_enter func130,ntmps130
 go_wp2
 refine bodyPost_ret (jy results130 rfl (aJ (aV x o) (by simp [go_sem] <;> rfl))) rfl ⟨rfl,by exact zB⟩
theorem uy (k e b:Int) (w:World):Calls prog 194 #[.agg #[.int .i64 k,.int .i64 e],.int .i64 b] w fun r w'=>r=.returned (.agg (aB (begun k e b)))∧Below w w w':=by
 by_cases h:k=2
 ·subst h
  go_enter func194,ntmps194
  go_wp2
  refine bodyPost_ret (jy results194 rfl (aJ (begun 2 e b) (by simp [go_sem] <;> rfl))) rfl ⟨rfl,by exact zB⟩
 ·have m:begun k e b=⟨1,k,e,0,0,0,0,0,0,0,0,b,0,0⟩:=by simp [begun,h]
  rw [m]
  have q:(k == 2)=false:=by simpa using h
  clear h
  go_enter func194,ntmps194
  go_wp2
  refine bodyPost_ret (jy results194 rfl (aJ ⟨1,k,e,0,0,0,0,0,0,0,0,b,0,0⟩ (by simp [go_sem] <;> rfl))) rfl ⟨rfl,by exact zB⟩
theorem lJ (h:Ha) (w:World):Calls prog 207 #[.agg (aB h)] w fun r w'=>r=.returned (.agg (aB (begun h.code h.elem h.beg)))∧Below w w w':=by
 go_enter func207,ntmps207
 go_wp2_with fail;refine aK w zB fun y=>?_;refine (uy h.code h.elem h.beg _).mono ?_;rintro _ D ⟨rfl,m⟩;obtain ⟨z,q,u⟩:=BM y m (b:=w);(try simp at q);(try simp [go_sem] at u);replace A:=uV u;clear u m y
 go_wp2
 refine bodyPost_ret (jy results207 rfl (aJ (begun h.code h.elem h.beg) tZ)) rfl ⟨rfl,by exact zB⟩
end
section
open Go.RowKit
attribute [local go_sem ↓] aQ aY aZ aX aN
theorem uz (h:Ha) (k e:Int) (w:World):Calls prog 176 #[.agg (aB h),.agg #[.int .i64 k,.int .i64 e]] w fun r w'=>r=.returned (.tuple #[.agg (aB (called h k e).1),.int .i64 (called h k e).2])∧Below w w w':=by
 by_cases F:bM h=true
 ·by_cases h1:h.pos=0
  ·by_cases J:eB k e=true
   ·rw [show called h k e=(begun k e 0,0) by simp [called,F,h1,J]]
    have n1:(h.pos != 0)=false:=by simp [h1]
    clear h1
    go_enter func176,ntmps176
    go_wp2_with fail;refine aK w zB fun y=>?_;refine (iR h _).mono ?_;rintro _ K ⟨rfl,m⟩;obtain ⟨A,u,q⟩:=uW y m (b:=w);(try simp at u);(try simp [go_sem] at q);replace E:=ql q;clear q m y
    rw [F]
    go_wp2_with fail;refine aK w zB fun y=>?_;refine (ni k e _).mono ?_;rintro _ M ⟨rfl,z⟩;obtain ⟨H,D,q⟩:=uW y z (b:=w);(try simp at D);(first|simp [go_sem,E] at q|simp [go_sem] at q|skip);replace E:=ql q;clear q z y
    rw [J]
    go_wp2_with fail;refine aK w zB fun y=>?_;refine (uy k e 0 _).mono ?_;rintro _ N ⟨rfl,G⟩;obtain ⟨L,I,q⟩:=uW y G (b:=w);(try simp at I);(first|simp [go_sem,E] at q|simp [go_sem] at q|skip);replace E:=ql q;clear q G y
    go_wp2
    exact bodyPost_ret (j5 results176 rfl (aJ (begun k e 0) tY)) rfl ⟨rfl,by exact zB⟩
   ·have h2':eB k e=false:=by simpa using J
    rw [show called h k e=(h,2) by simp [called,F,h1,h2']]
    have n1:(h.pos != 0)=false:=by simp [h1]
    clear h1 J
    go_enter func176,ntmps176
    go_wp2_with fail;refine aK w zB fun y=>?_;refine (iR h _).mono ?_;rintro _ K ⟨rfl,m⟩;obtain ⟨A,u,q⟩:=uW y m (b:=w);(try simp at u);(try simp [go_sem] at q);replace E:=ql q;clear q m y
    rw [F]
    go_wp2_with fail;refine aK w zB fun y=>?_;refine (ni k e _).mono ?_;rintro _ M ⟨rfl,z⟩;obtain ⟨H,D,q⟩:=uW y z (b:=w);(try simp at D);(first|simp [go_sem,E] at q|simp [go_sem] at q|skip);replace E:=ql q;clear q z y
    rw [h2']
    go_wp2
    exact bodyPost_ret (j5 results176 rfl (aJ h tY)) rfl ⟨rfl,by exact zB⟩
  ·rw [show called h k e=(h,1) by simp [called,F,h1]]
   have n1:(h.pos != 0)=true:=by simpa using h1
   clear h1
   go_enter func176,ntmps176
   go_wp2_with fail;refine aK w zB fun y=>?_;refine (iR h _).mono ?_;rintro _ K ⟨rfl,m⟩;obtain ⟨A,u,q⟩:=uW y m (b:=w);(try simp at u);(try simp [go_sem] at q);replace E:=ql q;clear q m y
   rw [F]
   go_wp2
   exact bodyPost_ret (j5 results176 rfl (aJ h tY)) rfl ⟨rfl,by exact zB⟩
 ·have h0':bM h=false:=by simpa using F
  rw [show called h k e=(Ha.zero,3) by simp [called,h0']]
  clear F
  go_enter func176,ntmps176
  go_wp2_with fail;refine aK w zB fun y=>?_;refine (iR h _).mono ?_;rintro _ K ⟨rfl,m⟩;obtain ⟨A,u,q⟩:=uW y m (b:=w);(try simp at u);(try simp [go_sem] at q);replace E:=ql q;clear q m y
  rw [h0']
  go_wp2
  exact bodyPost_ret (j5 results176 rfl (aJ Ha.zero tY)) rfl ⟨rfl,by exact zB⟩
end
section
open Go.RowKit
theorem KV (w:World):(isAgg 164).run prog w=.ok true w:=by simp [isAgg,go_sem]
theorem Om (w:World):(sizeOf 164).run prog w=.ok 14 w:=by simp [go_sem]
theorem E8 {w:World} {b:Nat} (h:okO 14 (hp w b)=true):(loadVar 164 ⟨b,0,none⟩).run prog w=.ok (.agg (jP (hp w b))) w:=nQ KV Om h
theorem IB {w:World} {b:Nat} (h:okO 14 (hp w b)=true):(Instr.loadAt 164 (.pointer (some ⟨b,0,none⟩))).run prog w=.ok (.agg (jP (hp w b))) w:=by
 simp only [Instr.loadAt,Instr.sureAddr,Sem.run_bind,Sem.run_pure,Result.andThen_ok,E8 h]
def E9 (x:Value):Sem Value:=Instr.loadAt 164 x
theorem KW (x:Value):Instr.loadAt 164 x=E9 x:=by unfold E9;simp
theorem IC {w:World} {b:Nat} (h:okO 14 (hp w b)=true):(E9 (.pointer (some ⟨b,0,none⟩))).run prog w=.ok (.agg (jP (hp w b))) w:=IB h
theorem KX (w:World):(isAgg 64).run prog w=.ok true w:=by simp [isAgg,go_sem]
theorem Oo (w:World):(sizeOf 64).run prog w=.ok 6 w:=by simp [go_sem]
theorem EB {w:World} {b:Nat} (h:okO 6 (hp w b)=true):(loadVar 64 ⟨b,0,none⟩).run prog w=.ok (.agg (jP (hp w b))) w:=nQ KX Oo h
theorem IE {w:World} {b:Nat} (h:okO 6 (hp w b)=true):(Instr.loadAt 64 (.pointer (some ⟨b,0,none⟩))).run prog w=.ok (.agg (jP (hp w b))) w:=by
 simp only [Instr.loadAt,Instr.sureAddr,Sem.run_bind,Sem.run_pure,Result.andThen_ok,EB h]
def PN (x:Value):Sem Value:=Instr.loadAt 64 x
theorem IG {w:World} {b:Nat} (h:okO 6 (hp w b)=true):(PN (.pointer (some ⟨b,0,none⟩))).run prog w=.ok (.agg (jP (hp w b))) w:=IE h
attribute [go_sem] IC IG
attribute [local go_sem ↓] aQ aY aZ aX aN
end
section
def qx:Nat→Nat→Wo→Wo × Bool
 | 0,_,x=>(x,false)
 | k+1,i,x=>if (aL x (i:Int)).pos=0 then qx k (i+1) x else ((qx k (i+1) (eT x (i:Int)).1).1,(eT x (i:Int)).2 || (qx k (i+1) (eT x (i:Int)).1).2)
def jM (x:Wo):Wo × Bool:=qx x.hands 0 x
def lK:Nat→Wo→Wo × Nat
 | 0,x=>(x,0)
 | n+1,x=>if x.hands.all (fun h=>h.pos == 0) then (x,0) else if (jM x).2 then ((lK n (jM x).1).1,(lK n (jM x).1).2+1) else (x,0)
def setW (x:Wo) (most:Int):Wo × Int:=if bC x then (if dA most 0 20000 then ((lK most.toNat x).1,(lK most.toNat x).2) else (x,-1)) else (Wo.zero,-1)
end
end Go.Proofs.YtffhjmepfojhnaaGreat
