/-
  Lists of hands and of deals in memory; no condition.
-/
import Derived.Test.YtffhjmepfojhnaaGreatS01
set_option maxRecDepth 100000
set_option maxHeartbeats 400000
set_option linter.unusedSimpArgs false
set_option linter.unusedVariables false
namespace Go.Proofs.YtffhjmepfojhnaaGreat
open _root_.Go.Proofs.Tryz
section
open Go.RowKit
def gM (d:De):Array Value:=#[.int .i64 d.task,.int .i64 d.code,.int .i64 d.elem,.int .i64 d.beg,.int .i64 d.fin,.int .i64 d.reply,.int .i64 d.out]
def jF (hs:List Ha):List Value:=hs.flatMap fun h=>(aB h).toList
def kJ (ds:List De):List Value:=ds.flatMap fun d=>(gM d).toList
def dY (hs:List Ha) (i j:Nat):Value:=(aB (hs.getD i Ha.zero)).getD j (.int .i64 0)
def p8 (ds:List De) (i j:Nat):Value:=(gM (ds.getD i De.zero)).getD j (.int .i64 0)
abbrev pF (w:World) (B:Nat) (a:Option Addr) (hs:List Ha):Prop:=Seg w B a hs.length 14 (dY hs)
abbrev pG (w:World) (B:Nat) (a:Option Addr) (ds:List De):Prop:=Seg w B a ds.length 7 (p8 ds)
abbrev kZ (x:Wo) (a b d e:Option Addr) (p q r s:Nat):Value:=.agg #[x.ch.cap,x.ch.sent,x.ch.got,x.ch.fin,.slice a x.ch.cells p,.slice b x.ch.words q,.slice d x.hands r,.slice e x.deals s,x.now]
theorem jA (hs:List Ha):(jF hs).length=hs.length*14:=by
 induction hs with
 | nil=>rfl
 | cons c cs ih=>simp [jF,aB] at *;omega
theorem mK (ds:List De):(kJ ds).length=ds.length*7:=by
 induction ds with
 | nil=>rfl
 | cons c cs ih=>simp [kJ,gM] at *;omega
theorem kg:∀ (hs:List Ha) (i j:Nat),i<hs.length→j<14→(jF hs)[i*14+j]?=some (dY hs i j)
 | [],i,j,hi,_=>by simp at hi
 | c :: cs,0,j,_,hj=>by
  have e:jF (c :: cs)=(aB c).toList ++ jF cs:=by simp [jF]
  rw [e,List.getElem?_append_left (by simp [qi];omega)]
  simp [dY,Array.getD,qi,hj]
 | c :: cs,i+1,j,hi,hj=>by
  have h:=kg cs i j (by simpa using hi) hj
  have e:jF (c :: cs)=(aB c).toList ++ jF cs:=by simp [jF]
  rw [e,List.getElem?_append_right (by simp [qi];omega)]
  have m:(i+1)*14+j - (aB c).toList.length=i*14+j:=by simp [qi];omega
  rw [m,h]
  simp [dY]
theorem mM:∀ (hs:List De) (i j:Nat),i<hs.length→j<7→(kJ hs)[i*7+j]?=some (p8 hs i j)
 | [],i,j,hi,_=>by simp at hi
 | c :: cs,0,j,_,hj=>by
  have e:kJ (c :: cs)=(gM c).toList ++ kJ cs:=by simp [kJ]
  rw [e,List.getElem?_append_left (by simp [gM];omega)]
  simp [p8,Array.getD,gM,hj]
 | c :: cs,i+1,j,hi,hj=>by
  have h:=mM cs i j (by simpa using hi) hj
  have e:kJ (c :: cs)=(gM c).toList ++ kJ cs:=by simp [kJ]
  rw [e,List.getElem?_append_right (by simp [gM];omega)]
  have m:(i+1)*7+j - (gM c).toList.length=i*7+j:=by simp [gM];omega
  rw [m,h]
  simp [p8]
theorem yV (hs:List Ha):∀ u ∈ jF hs,u.oneCell'=true:=by
 intro u q
 simp only [jF,List.mem_flatMap] at q
 obtain ⟨c,_,m⟩:=q
 simp [aB] at m
 rcases m with rfl|rfl|rfl|rfl|rfl|rfl|rfl|rfl|rfl|rfl|rfl|rfl|rfl|rfl <;> rfl
theorem yX (hs:List De):∀ u ∈ kJ hs,u.oneCell'=true:=by
 intro u q
 simp only [kJ,List.mem_flatMap] at q
 obtain ⟨c,_,m⟩:=q
 simp [gM] at m
 rcases m with rfl|rfl|rfl|rfl|rfl|rfl|rfl <;> rfl
abbrev cO (w:World) (lo:Nat) (v:Value) (hs:List Ha):Prop:=w.ownsRow lo 49 14 v hs.length (jF hs)
abbrev dV (w:World) (lo:Nat) (v:Value) (ds:List De):Prop:=w.ownsRow lo 44 7 v ds.length (kJ ds)
theorem uZ {w:World} {lo:Nat} {t:TypeId} {n k:Nat} {v:Value} {q:List Value} {f:Nat→Nat→Value} (h:w.ownsRow lo t k v n q) (u:∀ i j,i<n→j<k→q[i*k+j]?=some (f i j)):∃ (a:Option Addr) (cap:Nat),v=.slice a n cap∧Seg w w a n k f:=by
 rcases h.2 with ⟨rfl,m⟩|⟨g,cap,r,rfl,_,y,_⟩
 ·exact ⟨none,0,by rw [m],.inl m⟩
 ·refine ⟨_,cap,rfl,.inr ⟨g,0,rfl,(Array.getElem?_eq_some_iff.1 y).1,fun i j z A=>?_⟩⟩
  have:=h.cells (g:=g) rfl (i*k+j) _ (u i j z A)
  rw [← this]
  congr 1
  by_cases e:i*k+j=0 <;> simp [Addr.add,e] <;> omega
theorem cO.seg {w:World} {lo:Nat} {v:Value} {hs:List Ha} (h:cO w lo v hs):∃ (a:Option Addr) (cap:Nat),v=.slice a hs.length cap∧Seg w w a hs.length 14 (dY hs):=uZ h fun i j m q=>kg hs i j m q
theorem dV.seg {w:World} {lo:Nat} {v:Value} {ds:List De} (h:dV w lo v ds):∃ (a:Option Addr) (cap:Nat),v=.slice a ds.length cap∧Seg w w a ds.length 7 (p8 ds):=uZ h fun i j m q=>mM ds i j m q
variable {w:World} {b o:Nat}
theorem jh (x:Ha) (h:∀ j,j<14→w.cell? ⟨b,o+j,none⟩=some ((aB x).getD j (.int .i64 0))):(jU (.pointer (some ⟨b,o,none⟩))).run prog w=.ok (.agg (aB x)) w:=by
 have y:=h 0 tO
 have h1:=h 1 tO
 have z:=h 2 tO
 have A:=h 3 tO
 have D:=h 4 tO
 have E:=h 5 tO
 have h6:=h 6 tO
 have F:=h 7 tO
 have G:=h 8 tO
 have H:=h 9 tO
 have m:=h 10 tO
 have q:=h 11 tO
 have r:=h 12 tO
 have u:=h 13 tO
 simp [aB,Array.getD] at y h1 z A D E h6 F G H m q r u
 simp [jU,aB,go_sem, *]
end
section
open Go.RowKit
theorem eO (n m:Int) (w:World):Calls prog 45 #[.int .i64 n,.int .i64 m] w fun e w'=>e=.returned (.bool (dA n 0 m))∧w=w':=by
 go_enter func45,ntmps45
 go_wp2
 all_goals go_ret
 ·exact ⟨dB (Kw ‹_›),rfl⟩
 ·exact ⟨dB (vw (.inl ‹_›)).symm,rfl⟩
def Lf (n:Int) (e:Ending):Prop:=∃ s:ByteArray,e=.returned (.string s)∧s.toList.isEmpty=!(dA n 0 10)
theorem IZ {n:Int} (s:ByteArray) (hs:s.data.size≠0) (h1:0≤n) (m:n≤10):Lf n (.returned (.string s)):=⟨_,rfl,by
 obtain ⟨⟨l⟩⟩:=s
 rw [lu h1 m]
 cases l with
 | nil=>simp at hs
 | cons a l=>simp⟩
theorem Lg {n:Int} (h:n<0∨10<n):Lf n (.returned (.string ⟨#[]⟩)):=⟨_,rfl,by rw [vw h];simp⟩
theorem EI (n:Int) (w:World):Calls prog 195 #[.int .i64 n] w fun e w'=>Lf n e∧w=w':=by
 by_cases h:0≤n∧n≤10
 ·have q:n=0∨n=1∨n=2∨n=3∨n=4∨n=5∨n=6∨n=7∨n=8∨n=9∨n=10:=by omega
  clear h
  rcases q with rfl|rfl|rfl|rfl|rfl|rfl|rfl|rfl|rfl|rfl|rfl
  all_goals
   go_enter func195,ntmps195
   go_wp2
   go_ret
   exact ⟨IZ _ (by decide) tO tO,rfl⟩
 ·have r:(n == 0)=false:=by simp;omega
  have h1:(n == 1)=false:=by simp;omega
  have u:(n == 2)=false:=by simp;omega
  have y:(n == 3)=false:=by simp;omega
  have z:(n == 4)=false:=by simp;omega
  have A:(n == 5)=false:=by simp;omega
  have h6:(n == 6)=false:=by simp;omega
  have D:(n == 7)=false:=by simp;omega
  have E:(n == 8)=false:=by simp;omega
  have F:(n == 9)=false:=by simp;omega
  have m:(n == 10)=false:=by simp;omega
  have H:=aA h
  clear h
  go_enter func195,ntmps195
  go_wp2
  go_ret
  exact ⟨Lg (by have:=H.out;omega),rfl⟩
theorem oF (s e t:Int) (w:World):Calls prog 181 #[.agg #[.int .i64 s,.int .i64 e,.int .i64 t]] w fun r w'=>r=.returned (.bool (ku s e t))∧Below w w w':=by
 go_enter func181,ntmps181
 go_wp2_with (first|(go_at_call 195;refine (EI _ _).mono ?_;rintro m u ⟨⟨q,rfl,hs⟩,rfl⟩)|(go_at_call 45;refine (eO _ _ _).mono ?_;rintro _ _ ⟨rfl,rfl⟩))
 all_goals go_ret
 all_goals refine ⟨dB ?_,by exact zB⟩
 ·exact GX ‹_› ‹_›
 ·exact GV ‹_›
 ·exact GU ‹_›
end
section
open Go.RowKit
def Hq (k:Int):Int:=if k == 1 then 999 else (if k == 2 then 0 else -1)
def Ow (k r:Int):Bool:=if r == 1 then k == 1 else (if r == 2 then k == 2 else (if r == 3 || r == 4 then k == 1 || k == 2 else false))
theorem Cr (k e:Int):dA e 0 (Hq k)=eB k e:=by
 unfold Hq eB
 by_cases h1:k=1
 ·subst h1;simp
 ·by_cases m:k=2
  ·subst m
   simp [dA]
   rw [Bool.eq_iff_iff];simp;omega
  ·have:(if k == 1 then (999:Int) else if k == 2 then 0 else -1)=-1:=by simp [h1,m]
   rw [this,vw tO]
   simp [h1,m]
theorem Cs (k e r:Int):(eB k e && Ow k r)=kM k e r:=by
 unfold kM
 by_cases q:eB k e=true
 ·rw [q]
  have m:k=1∨k=2:=by
   simp [eB] at q
   omega
  simp only [Bool.true_and]
  unfold Ow
  by_cases h1:r=1
  ·subst h1
   rcases m with rfl|rfl <;> decide
  ·by_cases u:r=2
   ·subst u
    rcases m with rfl|rfl <;> decide
   ·by_cases y:r=3
    ·subst y
     rcases m with rfl|rfl <;> decide
    ·by_cases z:r=4
     ·subst z
      rcases m with rfl|rfl <;> decide
     ·have:dA r 1 4=false:=vw tO
      simp [h1,u,y,z,this]
 ·simp [PK q]
theorem Aa (k:Int) (w:World):Calls prog 184 #[.int .i64 k] w fun r w'=>r=.returned (.int .i64 (Hq k))∧w=w':=by
 go_enter func184,ntmps184
 go_wp2
 all_goals go_ret
 all_goals exact ⟨ou (by simp_all [Hq]),rfl⟩
theorem Ab (k x:Int) (w:World):Calls prog 182 #[.int .i64 k,.int .i64 x] w fun r w'=>r=.returned (.bool (Ow k x))∧w=w':=by
 go_enter func182,ntmps182
 go_wp2
 all_goals go_ret
 all_goals exact ⟨dB (by simp_all [Ow]),rfl⟩
theorem yY (k e:Int) (w:World):Calls prog 155 #[.agg #[.int .i64 k,.int .i64 e]] w fun r w'=>r=.returned (.agg #[.int .i64 k,.int .i64 e])∧Below w w w':=by
 go_enter func155,ntmps155
 go_wp2
 exact bodyPost_ret (v:=.agg #[.int .i64 k,.int .i64 e]) (by simp [results,results155,go_sem, *]) rfl ⟨rfl,by exact zB⟩
theorem uA (k e:Int) (w:World):Calls prog 156 #[.agg #[.int .i64 k,.int .i64 e]] w fun r w'=>r=.returned (.bool (eB k e))∧Below w w w':=by
 go_enter func156,ntmps156
 go_wp2_with fail
 go_region_with (first|(go_at_call 184;refine (Aa _ _).mono ?_;rintro _ _ ⟨rfl,rfl⟩)|(go_at_call 45;refine (eO _ _ _).mono ?_;rintro _ _ ⟨rfl,rfl⟩))
 all_goals go_wp2
 all_goals go_ret
 all_goals exact ⟨dB (Cr k e),by exact zB⟩
theorem rA (k e:Int) (w:World):Calls prog 103 #[.agg #[.int .i64 k,.int .i64 e]] w fun r w'=>r=.returned (.bool (eB k e))∧Below w w w':=by
 go_enter func103,ntmps103
 go_wp2_with fail;refine (yY _ _ _).mono ?_;rintro _ z ⟨rfl,m⟩;have D:Below w w z:=bT zB m;have u:=m.size;(try (simp at u));have:=fun o=>m.cell (p:=⟨w,o,none⟩) (by ((try simp);(try omega)));have:=fun o=>m.frozen (p:=⟨w,o,none⟩) (by ((try simp);(try omega)));have:w<z.heap.size:=tO;have:w≤z.heap.size:=tO;have:w≤z.heap.size+1:=tO
 go_wp2_with fail;refine (uA _ _ _).mono ?_;rintro _ A ⟨rfl,q⟩;have E:Below w w A:=bT zB q;have y:=q.size;(try (simp at y));have:=fun o=>q.cell (p:=⟨w,o,none⟩) (by ((try simp);(try omega)));have:=fun o=>q.frozen (p:=⟨w,o,none⟩) (by ((try simp);(try omega)));have:w<A.heap.size:=tO;have:w≤A.heap.size:=tO;have:w≤A.heap.size+1:=tO
 go_wp2
 go_ret
 exact ⟨rfl,by exact zB⟩
theorem Ct (k e x:Int) (w:World):Calls prog 151 #[.agg #[.int .i64 k,.int .i64 e],.int .i64 x] w fun r w'=>r=.returned (.bool (kM k e x))∧Below w w w':=by
 go_enter func151,ntmps151
 go_wp2_with fail;refine (yY _ _ _).mono ?_;rintro _ u ⟨rfl,q⟩;have D:Below w w u:=bT zB q;have z:=q.size;(try (simp at z));have:=fun o=>q.cell (p:=⟨w,o,none⟩) (by ((try simp);(try omega)));have:=fun o=>q.frozen (p:=⟨w,o,none⟩) (by ((try simp);(try omega)));have:w<u.heap.size:=tO;have:w≤u.heap.size:=tO;have:w≤u.heap.size+1:=tO
 go_wp2_with fail;refine (uA _ _ _).mono ?_;rintro _ y ⟨rfl,m⟩;have E:Below w w y:=bT zB m;have A:=m.size;(try (simp at A));have:=fun o=>m.cell (p:=⟨w,o,none⟩) (by ((try simp);(try omega)));have:=fun o=>m.frozen (p:=⟨w,o,none⟩) (by ((try simp);(try omega)));have:=fun o=>m.cell (p:=⟨u,o,none⟩) (by ((try simp);(try omega)));have:=fun o=>m.frozen (p:=⟨u,o,none⟩) (by ((try simp);(try omega)));have:w<y.heap.size:=tO;have:w≤y.heap.size:=tO;have:w≤y.heap.size+1:=tO;have:u<y.heap.size:=tO;have:u≤y.heap.size:=tO;have:u≤y.heap.size+1:=tO
 go_wp2_with (go_at_call 182;refine (Ab _ _ _).mono ?_;rintro _ _ ⟨rfl,rfl⟩)
 all_goals go_ret
 all_goals exact ⟨dB (by rw [← Cs];simp_all),by exact zB⟩
end
section
open Go.RowKit
theorem QS (n:Nat) (q:n≤40) (g:Nat) (W:World):(Instr.sliceAt 129 (.pointer (some ⟨g,0,none⟩)) none (some (.int .i64 n)) (some (.int .i64 n))).run prog W=.ok (.slice (some ⟨g,0,none⟩) n n) W:=by
  have m:Tryz.prog.arrayLen 129=40:=by kernel_rfl
  rw [run_sliceAt_array_hm (P:=prog) W 129 ⟨g,0,none⟩ underlying129 .i64 .i64 n n tO tO tO]
  simp [go_sem,slicedAt]
theorem Lh (n:Nat) (q:n≤40) (g:Nat) (w:World):Calls prog 96 #[.pointer (some ⟨g,0,none⟩),.int .i64 n] w fun r w'=>r=.returned (.slice (some ⟨g,0,none⟩) n n)∧w=w':=by
  have m:=QS n q g
  go_enter func96,ntmps96
  go_wp2
  go_ret
  exact ⟨rfl,rfl⟩
def oG (l:List Int):Bool:=decide (l.length≤80) && l.all (fun x=>dA x 0 2)
def oH (n:Nat) (cs:List C3):Bool:=decide (cs.length=40) && cs.all (fI n)
def countB (c:Ch):Bool:=dA c.sent 0 40 && (dA c.got 0 40 && dA c.fin 0 40)
theorem Ac (c:Ch):aW c=(dA c.cap 0 4 && (countB c && (oG c.words && oH c.words c.cells))):=by
  unfold aW fO countB oG oH
  cases dA c.cap 0 4 <;> cases dA c.sent 0 40 <;> cases dA c.got 0 40 <;> cases dA c.fin 0 40 <;> cases decide (c.cells.length=40) <;> cases decide (c.words.length≤80) <;> cases c.cells.all (fI c.words) <;> cases c.words.all (fun x=>dA x 0 2) <;> rfl
theorem vR (c:Ch) (m q:Value) (w:World) :
    Calls prog 148 #[.agg #[c.cap,c.sent,c.got,c.fin,m,q]] w fun r w'=>r=.returned (.bool (countB c))∧Below w w w':=by
  go_enter func148,ntmps148
  go_wp2_with (go_at_call 45;refine (eO _ _ _).mono ?_;rintro _ _ ⟨rfl,rfl⟩)
  all_goals go_ret
  all_goals exact ⟨dB (by simp [countB, *]),by exact zB⟩
theorem EJ {l:List Int} {k:Nat} {x:Int} (m:k<l.length) (q:l.getD k 0=x) (h:dA x 0 2=false):false=oG l:=by
  have:l.all (fun x=>dA x 0 2)=false:=by
    rw [List.all_eq_false]
    refine ⟨l[k],List.getElem_mem m,?_⟩
    rw [← q] at h
    simpa [List.getD,List.getElem?_eq_getElem m] using h
  simp [oG,this]
theorem EL {l:List Int} (h:l.length≤80) (m:(l.take l.length).all (fun x=>dA x 0 2)=true):true=oG l:=by
  rw [List.take_length] at m
  simp only [oG,m,h,decide_true];rfl
theorem Cu (l:List Int) (a:Option Addr) (p:Nat) (w:World) (h:fD w w a l) (I:l.length≤maxLen) :
    Calls prog 149 #[.slice a l.length p] w fun r w'=>r=.returned (.bool (oG l))∧Below w w w':=by
  unfold maxLen at I
  by_cases y:80<l.length
  · have G:Hid (false=oG l):=by simp [oG,Hid];omega
    go_enter func149,ntmps149
    go_wp2
    go_ret
    exact ⟨dB G.out,Below.refl _ _⟩
  · have K:decide (80<(l.length:Int))=false:=by simp;omega
    have A:l.length≤80:=by omega
    clear y
    have F:=aA h
    clear h
    go_enter func149,ntmps149
    go_wp2
    go_loopw [10] (fun i wr=>∃ k:Nat,k≤l.length∧i=.int .i64 k∧Hid ((l.take k).all (fun x=>dA x 0 2)=true)∧Below w w wr) (fun i _=>l.length - (intOf i).toNat)
    case atStart=>exact ⟨0,Nat.zero_le _,rfl,rfl,Below.refl _ _⟩
    case round =>
      obtain ⟨k,L,rfl,m,z⟩:=hrel
      by_cases q:k<l.length
      · obtain J|⟨b,o,rfl,H,E⟩:=F.out
        · omega
        have c0:=(z.cell (p:=⟨b,o+k*1+0,none⟩) H).trans (E k 0 q tO)
        simp only [jT,Nat.add_zero,Nat.mul_one] at c0
        clear E
        generalize u:l.getD k 0=x at c0
        have D:=aA u
        clear u
        go_wp2_with (go_at_call 45;refine (eO _ _ _).mono ?_;rintro _ _ ⟨rfl,rfl⟩)
        · go_ret
          exact ⟨dB (EJ q D.out (not_true ‹_›)),z⟩
        · go_roundw
          case rel=>exact ⟨k+1,by omega,by go_num,vC q D.out m.out (not_false ‹_›),z⟩
          case measure=>simp [intOf];omega
      · have:k=l.length:=by omega
        subst this
        go_wp2
        go_ret
        exact ⟨dB (EL A m.out),z⟩
theorem EM {n:Nat} {cs:List C3} {k:Nat} {c:C3} (m:k<cs.length) (q:cs.getD k ⟨0,0,0⟩=c) (h:fI n c=false):false=oH n cs:=by
  have:cs.all (fI n)=false:=by
    rw [List.all_eq_false]
    refine ⟨cs[k],List.getElem_mem m,?_⟩
    rw [← q] at h
    simpa [List.getD,List.getElem?_eq_getElem m] using h
  simp [oH,this]
theorem EN {n:Nat} {cs:List C3} (h:cs.length=40) (m:(cs.take cs.length).all (fI n)=true):true=oH n cs:=by
  rw [List.take_length] at m
  simp only [oH,m,h,decide_true];rfl
theorem Cv {n:Nat} {cs:List C3} {k:Nat} {c:C3} (q:k<cs.length) (m:cs.getD k ⟨0,0,0⟩=c) (h:(cs.take k).all (fI n)=true) (h1:fI n c=true):(cs.take (k+1)).all (fI n)=true:=by
  rw [ow cs k q,m,List.all_append,h];simp [h1]
theorem Cw (n:Nat) (cs:List C3) (a:Option Addr) (p:Nat) (w:World) (h:fA w w a cs) (R:cs.length≤maxLen) :
    Calls prog 150 #[.slice a cs.length p,.int .i64 n] w fun r w'=>r=.returned (.bool (oH n cs))∧Below w w w':=by
  unfold maxLen at R
  by_cases q:cs.length=40
  · have N:((cs.length:Int) != 40)=false:=by simp;omega
    have O:cs.length≤40:=by omega
    have K:=aA q
    clear q
    have L:=aA h
    clear h
    go_enter func150,ntmps150
    go_wp2
    go_loopw [12] (fun i wr=>∃ k:Nat,k≤cs.length∧i=.int .i64 k∧Hid ((cs.take k).all (fI n)=true)∧Below w w wr) (fun i _=>cs.length - (intOf i).toNat)
    case atStart=>exact ⟨0,Nat.zero_le _,rfl,rfl,Below.refl _ _⟩
    case round =>
      obtain ⟨k,U,rfl,y,z⟩:=hrel
      have hs:=z.size
      by_cases u:k<cs.length
      · obtain T|⟨b,o,rfl,G,E⟩:=L.out
        · omega
        have c0:=(z.cell (p:=⟨b,o+k*3+0,none⟩) G).trans (E k 0 u tO)
        have I:=(z.cell (p:=⟨b,o+k*3+1,none⟩) G).trans (E k 1 u tO)
        have c2:=(z.cell (p:=⟨b,o+k*3+2,none⟩) G).trans (E k 2 u tO)
        simp only [iq,C3.val,Nat.add_zero] at c0 I c2
        clear E
        generalize A:cs.getD k ⟨0,0,0⟩=c at c0 I c2
        have H:=aA A
        clear A
        go_wp2_with (go_at_call 181;refine (oF _ _ _ _).mono ?_;rintro _ F ⟨rfl,m⟩;have J:Below w w F:=bT zB m;have D:=m.size;(try (simp at D));have:=fun o=>m.cell (p:=⟨wr,o,none⟩) (by ((try simp);(try omega)));have:=fun o=>m.frozen (p:=⟨wr,o,none⟩) (by ((try simp);(try omega)));have:wr<F.heap.size:=tO;have:wr≤F.heap.size:=tO;have:wr≤F.heap.size+1:=tO)
        all_goals first
          | (go_ret;exact ⟨dB (EM u H.out (by simp_all [fI,P7])),by exact zB⟩)
          | (go_roundw
             case rel=>exact ⟨k+1,by omega,by go_num,Cv u H.out y.out (by simp_all [fI,P7]),by exact zB⟩
             case measure=>simp [intOf];omega)
      · have:k=cs.length:=by omega
        subst this
        go_wp2
        go_ret
        exact ⟨dB (EN K.out y.out),z⟩
  · have N:((cs.length:Int) != 40)=true:=by simp;omega
    have M:Hid (false=oH n cs):=by simp [oH,Hid,q]
    clear q
    go_enter func150,ntmps150
    go_wp2
    go_ret
    exact ⟨dB M.out,Below.refl _ _⟩
theorem jo (c:Ch) (a b:Option Addr) (p q:Nat) (w:World) (h1:fA w w a c.cells) (D:fD w w b c.words) (F:c.cells.length≤maxLen) (G:c.words.length≤maxLen) :
    Calls prog 98 #[.agg #[c.cap,c.sent,c.got,c.fin,.slice a c.cells p,.slice b c.words q]] w fun r w'=>r=.returned (.bool (aW c))∧Below w w w':=by
  rw [Ac]
  have H:=aA h1
  have I:=aA D
  have J:=aA F
  have K:=aA G
  clear h1 D F G
  go_enter func98,ntmps98
  go_wp2_with (first|(go_at_call 45;refine (eO _ _ _).mono ?_;rintro _ _ ⟨rfl,rfl⟩)|(go_at_call 148;refine (vR c _ _ _).mono ?_;rintro _ z ⟨rfl,m⟩;have E:Below w w z:=bT zB m;have y:=m.size;(try (simp at y));have:=fun o=>m.cell (p:=⟨w,o,none⟩) (by ((try simp);(try omega)));have:=fun o=>m.frozen (p:=⟨w,o,none⟩) (by ((try simp);(try omega)));have:w<z.heap.size:=tO;have:w≤z.heap.size:=tO;have:w≤z.heap.size+1:=tO)|(go_at_call 149;refine (Cu c.words b q _ ((I.out.below zB).more (by (try simp);omega)) K.out).mono ?_;rintro _ O ⟨rfl,u⟩;have L:Below w w O:=bT zB u;have N:=u.size;have:=fun o=>u.cell (p:=⟨w,o,none⟩) (by (try simp);omega))|(go_at_call 150;refine (Cw c.words c.cells a p _ ((H.out.below zB).more (by (try simp);omega)) J.out).mono ?_;rintro _ R ⟨rfl,A⟩;have M:Below w w R:=bT zB A))
  all_goals go_ret
  all_goals exact ⟨dB (by simp [*]),by exact zB⟩
end
section
open Go.RowKit
theorem Li (s e t m:Int) (w:World):Calls prog 248 #[.agg #[.int .i64 s,.int .i64 e,.int .i64 t],.int .i64 m] w fun r w'=>r=.returned (.agg #[.int .i64 s,.int .i64 (mE s e t m),.int .i64 t])∧Below w w w':=by
 go_enter func248,ntmps248
 go_wp2_with (first|(go_at_call 181;refine (oF _ _ _ _).mono ?_;rintro _ u ⟨rfl,q⟩;have z:Below w w u:=bT zB q;have y:=q.size;(try (simp at y));have:=fun o=>q.cell (p:=⟨w,o,none⟩) (by ((try simp);(try omega)));have:=fun o=>q.frozen (p:=⟨w,o,none⟩) (by ((try simp);(try omega)));have:=fun o=>q.cell (p:=⟨w+1,o,none⟩) (by ((try simp);(try omega)));have:=fun o=>q.frozen (p:=⟨w+1,o,none⟩) (by ((try simp);(try omega)));have:w<u.heap.size:=tO;have:w≤u.heap.size:=tO;have:w≤u.heap.size+1:=tO;have:w+1<u.heap.size:=tO;have:w+1≤u.heap.size:=tO;have:w+1≤u.heap.size+1:=tO)|(go_at_call 45;refine (eO _ _ _).mono ?_;rintro _ _ ⟨rfl,rfl⟩))
 ·rw [GZ ‹_›];exact bodyPost_ret (v:=.agg #[.int .i64 s,.int .i64 e,.int .i64 t]) (by simp [results,results248,go_sem, *]) rfl ⟨rfl,by exact zB⟩
 ·rw [Hd ‹_› ‹_›];exact bodyPost_ret (v:=.agg #[.int .i64 s,.int .i64 m,.int .i64 t]) (by simp [results,results248,go_sem, *]) rfl ⟨rfl,by exact zB⟩
 ·rw [GY ‹_›];exact bodyPost_ret (v:=.agg #[.int .i64 s,.int .i64 e,.int .i64 t]) (by simp [results,results248,go_sem, *]) rfl ⟨rfl,by exact zB⟩
theorem EO (s e t f n v:Int) (w:World):Calls prog 256 #[.agg #[.int .i64 s,.int .i64 e,.int .i64 t],.int .i64 f,.int .i64 n,.int .i64 v] w fun r w'=>uh s e t f n v r∧Below w w w':=by
 by_cases z:s=f
 ·subst z
  go_enter func256,ntmps256
  go_wp2_with (go_at_call 181;refine (oF _ _ _ _).mono ?_;rintro _ q ⟨rfl,m⟩;have y:Below w w q:=bT zB m;have u:=m.size;(try (simp at u));have:=fun o=>m.cell (p:=⟨w,o,none⟩) (by ((try simp);(try omega)));have:=fun o=>m.frozen (p:=⟨w,o,none⟩) (by ((try simp);(try omega)));have:=fun o=>m.cell (p:=⟨w+1,o,none⟩) (by ((try simp);(try omega)));have:=fun o=>m.frozen (p:=⟨w+1,o,none⟩) (by ((try simp);(try omega)));have:=fun o=>m.cell (p:=⟨w+1+1,o,none⟩) (by ((try simp);(try omega)));have:=fun o=>m.frozen (p:=⟨w+1+1,o,none⟩) (by ((try simp);(try omega)));have:w<q.heap.size:=tO;have:w≤q.heap.size:=tO;have:w≤q.heap.size+1:=tO;have:w+1<q.heap.size:=tO;have:w+1≤q.heap.size:=tO;have:w+1≤q.heap.size+1:=tO;have:w+1+1<q.heap.size:=tO;have:w+1+1≤q.heap.size:=tO;have:w+1+1≤q.heap.size+1:=tO)
  all_goals first
   | (refine bodyPost_ret (v:=.tuple #[.agg #[.int .i64 n,.int .i64 e,.int .i64 v],.bool true]) (by simp [results,results256,go_sem, *]) rfl ⟨yH (K5 ‹_› ‹_›),by exact zB⟩)
   | (refine bodyPost_ret (v:=.tuple #[.agg #[.int .i64 s,.int .i64 e,.int .i64 t],.bool false]) (by simp [results,results256,go_sem, *]) rfl ⟨rT (by first|exact zT ‹_›|exact Kz ‹_›),by exact zB⟩)
 ·go_enter func256,ntmps256
  go_wp2_with (go_at_call 181;refine (oF _ _ _ _).mono ?_;rintro _ q ⟨rfl,m⟩;have y:Below w w q:=bT zB m;have u:=m.size;(try (simp at u));have:=fun o=>m.cell (p:=⟨w,o,none⟩) (by ((try simp);(try omega)));have:=fun o=>m.frozen (p:=⟨w,o,none⟩) (by ((try simp);(try omega)));have:=fun o=>m.cell (p:=⟨w+1,o,none⟩) (by ((try simp);(try omega)));have:=fun o=>m.frozen (p:=⟨w+1,o,none⟩) (by ((try simp);(try omega)));have:=fun o=>m.cell (p:=⟨w+1+1,o,none⟩) (by ((try simp);(try omega)));have:=fun o=>m.frozen (p:=⟨w+1+1,o,none⟩) (by ((try simp);(try omega)));have:w<q.heap.size:=tO;have:w≤q.heap.size:=tO;have:w≤q.heap.size+1:=tO;have:w+1<q.heap.size:=tO;have:w+1≤q.heap.size:=tO;have:w+1≤q.heap.size+1:=tO;have:w+1+1<q.heap.size:=tO;have:w+1+1≤q.heap.size:=tO;have:w+1+1≤q.heap.size+1:=tO)
  all_goals (refine bodyPost_ret (v:=.tuple #[.agg #[.int .i64 s,.int .i64 e,.int .i64 t],.bool false]) (by simp [results,results256,go_sem, *]) rfl ⟨rT (by first|exact Ky ‹_›|exact zT ‹_›),by exact zB⟩)
end
section
open Go.RowKit
theorem jV (n:Nat) (who:Int) (B:Nat) (d:Option Addr) (r:Nat) (w:World) (q:w.cell? ⟨B,6,none⟩=some (.slice d n r)) (m:n≤1099511627776) :
  Calls prog 50 #[.pointer (some ⟨B,0,none⟩),.int .i64 who] w fun r w'=>r=.returned (.bool (eH n who))∧w=w':=by
 go_enter func50,ntmps50
 go_wp2_with (go_at_call 45;refine (eO _ _ _).mono ?_;rintro _ _ ⟨rfl,rfl⟩)
 go_ret
 exact ⟨rfl,rfl⟩
end
end Go.Proofs.YtffhjmepfojhnaaGreat
