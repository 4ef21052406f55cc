/-
  The beginning of growing, of the reference model, on hands and channels that are kept whole; lists lie in memory and hold at most 2 ^ 40 elements.
-/
import Derived.Test.YtffhjmepfojhnaaGreatS15
import Derived.BigRegion
import Derived.Test.YtffhjmepfojhnaaGreatS16
import Derived.Test.YtffhjmepfojhnaaGreatS03
import Derived.Test.YtffhjmepfojhnaaGreatS04
import Derived.Deep.DeepCutAuto
import Derived.Deep.RegionHeld3
import Derived.Test.YtffhjmepfojhnaaGreatS06
import Derived.Test.YtffhjmepfojhnaaGreatS02
import Derived.Test.YtffhjmepfojhnaaGreatS17
set_option maxRecDepth 100000
set_option maxHeartbeats 2000000
set_option linter.unusedSimpArgs false
set_option linter.unusedVariables false
namespace Go.Proofs.YtffhjmepfojhnaaGreat
open _root_.Go.Proofs.Tryz
section
open Go.RowKit
attribute [local simp] aP
attribute [local go_sem ↓] aQ bF aY bY aZ bZ aX bB aN aU
theorem Di (c:Ch) (h:Ha):(iJ c h).1.cells=c.cells:=by unfold iJ;split <;> rfl
theorem Dj (c:Ch) (h:Ha):(iJ c h).1.words=c.words:=by unfold iJ;split <;> rfl
theorem Dk (c:Ch) (h:Ha) (A D:Option Addr) (n1 E F G:Nat) (w:World) (R:0≤c.fin∧c.fin≤40) :
  Calls prog 208 #[.agg (aF c (.slice A n1 F) (.slice D E G)),.agg (aB h)] w fun r w'=>r=.returned (.tuple #[.agg (aF (iJ c h).1 (.slice A n1 F) (.slice D E G)),.agg (aB (iJ c h).2)])∧Below w w w':=by
 by_cases y:c.cap=0∨c.fin=40
 ·rw [show iJ c h=(c,dP h) by unfold iJ;rw [if_pos (by simpa using y)]]
  have q:(c.cap == 0)=true∨((c.cap == 0)=false∧(c.fin == 40)=true):=by
   by_cases H:c.cap=0
   ·exact .inl (by simpa using H)
   ·exact .inr ⟨by simpa using H,by simpa [H] using y⟩
  clear y
  rcases q with q|⟨q,N⟩
  all_goals go_enter func208,ntmps208
  all_goals go_wp2_with fail
  all_goals go_region_with (first|((go_at_call 209;refine aK w zB fun J=>?_;refine (jW _ _).mono ?_;rintro _ T ⟨rfl,m⟩;obtain ⟨u,z,I⟩:=fH J m (b:=w);(try simp at z);(try simp [go_sem] at I);replace O:=dW I;clear I;have K:=u;clear m J)))
  all_goals go_wp2
  all_goals exact bodyPost_ret (rq results208 rfl (aO c (.slice A n1 F) (.slice D E G) tY) rfl (aJ (dP h) tY)) rfl ⟨rfl,by exact zB⟩
 ·have L:(c.cap == 0)=false:=by simp;omega
  have M:(c.fin == 40)=false:=by simp;omega
  rw [show iJ c h=({ c with fin:=c.fin+1 },{ h with grow:=c.fin,pos:=17 }) by unfold iJ;rw [if_neg (by simpa using y)]]
  clear y
  go_enter func208,ntmps208
  go_wp2_with fail
  go_region
  all_goals go_wp2
  all_goals exact bodyPost_ret (rq results208 rfl (aO { c with fin:=c.fin+1 } (.slice A n1 F) (.slice D E G) tZ) rfl (aJ { h with grow:=c.fin,pos:=17 } tZ)) rfl ⟨rfl,by exact zB⟩
end
section
open Go.RowKit
attribute [local simp] aP
attribute [local go_sem ↓] aQ bF aY bY aZ bZ aX bB aN aU
theorem nC (h:Ha) (t:Int) (w:World):Calls prog 264 #[.agg (aB h),.int .i64 t] w fun r w'=>r=.returned (.agg (aB (eQ h t)))∧Below w w w':=by
 go_enter func264,ntmps264
 go_wp2_with fail;refine aK w zB fun y=>?_;refine (dL { h with nxt:=t } 16 _).mono ?_;rintro _ D ⟨rfl,m⟩;obtain ⟨z,q,u⟩:=BM y m (b:=w);(try simp at q);(try simp [go_sem] at u);replace A:=uV u;clear u m y
 go_wp2
 refine bodyPost_ret (jy results264 rfl (aJ (eQ h t) tZ)) rfl ⟨rfl,by exact zB⟩
theorem Aj (c:Ch) (h:Ha) (J K:Value) (lo:Nat) (w:World) (h1:aD w lo J c.cells) (E:aG w lo K c.words) (hs:c.got=40) :
  dG 261 c h J K lo w ((c,aV 4 0,true)):=by
 obtain ⟨z,H,A,I,rfl,rfl,L,M,R,T⟩:=rR h1 E
 clear h1 E
 have F:=L.out
 have G:=M.out
 go_enter func261,ntmps261
 go_wp2_with fail
 go_region_held3 (fun w'=>hp w' w=some (.cells (aF c (.slice z c.cells H) (.slice A c.words I)) 31)∧hp w' (w+1)=some (.cells (aB h) 49))
  (first|(simp [*,go_sem]))
  (first|((go_at_call 48;refine aK w zB fun D=>?_;refine (iF _ _ _).mono ?_;rintro _ V ⟨rfl,q⟩;obtain ⟨r,u,y⟩:=fH D q (b:=w);(try simp at u);(try simp [go_sem] at y);replace U:=dW y;clear y;have m:=r;clear q D);have N:=own_below F m;have O:=own_below G m))
 go_wp2
 refine rE results261 rfl (aO c (.slice z c.cells H) (.slice A c.words I) tZ) rfl (aJ (aV 4 0) tZ) ⟨⟨_,_,rfl,?_,?_,aM _ _,aM _ _⟩,dR zB⟩
 ·exact zO N F
 ·exact zO O G
theorem Ak (c:Ch) (h:Ha) (J K:Value) (lo:Nat) (w:World) (h1:aD w lo J c.cells) (E:aG w lo K c.words) (hs:¬ c.got=40) (N:0≤c.got∧c.got≤40) :
  dG 261 c h J K lo w (({ c with got:=c.got+1 },{ h with cell:=c.got,pos:=10 },true)):=by
 obtain ⟨z,H,A,I,rfl,rfl,L,M,T,U⟩:=rR h1 E
 clear h1 E
 have F:=L.out
 have G:=M.out
 go_enter func261,ntmps261
 go_wp2_with fail
 go_region_held3 (fun w'=>hp w' w=some (.cells (aF { c with got:=c.got+1 } (.slice z c.cells H) (.slice A c.words I)) 31)∧hp w' (w+1)=some (.cells (aB { h with cell:=c.got }) 49))
  (first|(simp [*,go_sem]))
  (first|((go_at_call 247;refine aK w zB fun D=>?_;refine (dL _ _ _).mono ?_;rintro _ X ⟨rfl,q⟩;obtain ⟨r,u,y⟩:=fH D q (b:=w);(try simp at u);(try simp [go_sem] at y);replace V:=dW y;clear y;have m:=r;clear q D);have O:=own_below F m;have R:=own_below G m))
 go_wp2
 refine rE results261 rfl (aO { c with got:=c.got+1 } (.slice z c.cells H) (.slice A c.words I) tZ) rfl (aJ { h with cell:=c.got,pos:=10 } tZ) ⟨⟨_,_,rfl,?_,?_,aM _ _,aM _ _⟩,dR zB⟩
 ·exact zO O F
 ·exact zO R G
theorem qH (c:Ch) (q u:Int) (y z:Ha) (D E:Value) (lo:Nat) (w:World) (h1:aD w lo D c.cells) (O:aG w lo E c.words) (V:0≤y.cell) (X:y.cell<c.cells.length) :
  (∀ (I:bQ c y.cell y.seen q u=true),Calls prog 265 #[.agg (aF c D E),.int .i64 q,.int .i64 u,.agg (aB y),.agg (aB z)] w fun r w'=>dJ w w' lo D E (bK c y.cell y.seen q u,y,true) r) ∧
  (∀ (I:bQ c y.cell y.seen q u=false),Calls prog 265 #[.agg (aF c D E),.int .i64 q,.int .i64 u,.agg (aB y),.agg (aB z)] w fun r w'=>dJ w w' lo D E (bK c y.cell y.seen q u,z,true) r):=by
 constructor
 case' left =>
  intro I
  have mA:Hid (0=0):=rfl
 case' right =>
  intro I
  have mB:Hid (0=0):=rfl
 all_goals
  obtain ⟨i,G⟩:∃ i:Nat,y.cell=(i:Int):=⟨y.cell.toNat,by omega⟩
  have hi:i<c.cells.length:=by omega
  have T:=aA fun W a b=>l8 c i y.seen q u D E lo W a b hi
  have A:=I
  rw [G] at A
  rw [A] at T
  have e0:bK c y.cell y.seen q u=bK c i y.seen q u:=by rw [G]
  rw [e0]
  have b1:=kY h1
  have b2:=kY O
  have J:=nO b1
  have K:=nO b2
  have a3:=J (w.heap.size) tO
  have a8:=K (w.heap.size) tO
  have a4:=J (w+1) tO
  have a9:=K (w+1) tO
  have a5:=J (w+1+1) tO
  have aa:=K (w+1+1) tO
  have a6:=J (w+1+1+1) tO
  have ab:=K (w+1+1+1) tO
  have a7:=J (w+1+1+1+1) tO
  have ac:=K (w+1+1+1+1) tO
  have Y:=h1
  have Z:=O
  obtain ⟨M,R,e1,_⟩:=h1.seg
  obtain ⟨N,U,e2,_⟩:=O.seg
  subst e1 e2
  clear h1 O I A e0 V X
  go_enter func265,ntmps265
  go_wp2_with fail;refine (T.out _ (zO Y Y) (zO Z Z)).mono ?_;rintro _ L ⟨rfl,p1,p2,m⟩;have H:=m.size;(try (simp at H));have zz:=Rk m (b:=w);(try simp [go_sem] at zz);replace bX:=ll zz;clear zz;have F:=I6 (w:=w) zB m;clear m
  have a0:jI (Value.slice M c.cells R).ownBlock (Value.slice N c.words U).ownBlock w L:=mY F
  obtain ⟨k0,k1,k2,k3⟩:=mF (a:=w) (b:=L)
  have k4:w+1+1+1+1<L.heap.size:=by omega
  have r1:aD L lo (.slice M c.cells R) (bK c i y.seen q u).cells:=p1
  have r2:aG L lo (.slice N c.words U) (bK c i y.seen q u).words:=p2
  clear p1 p2
  go_wp2_with fail
  go_region
  go_wp2
  first
  | (replace mA:=mA;refine rE results265 rfl (aO c (.slice M c.cells R) (.slice N c.words U) tZ) rfl (aJ y tZ) ⟨⟨_,_,rfl,?_,?_,aM _ _,aM _ _⟩,by exact zN⟩)
  | (replace mB:=mB;refine rE results265 rfl (aO c (.slice M c.cells R) (.slice N c.words U) tZ) rfl (aJ z tZ) ⟨⟨_,_,rfl,?_,?_,aM _ _,aM _ _⟩,by exact zN⟩)
  ·exact zO r1 Y
  ·exact zO r2 Z
theorem Al (c:Ch) (m A:Int) (y z:Ha) (q u:Value) (lo:Nat) (w:World) (h1:aD w lo q c.cells) (F:aG w lo u c.words) (D:0≤y.cell) (E:y.cell<c.cells.length) (G:bQ c y.cell y.seen m A=true) :
  Calls prog 265 #[.agg (aF c q u),.int .i64 m,.int .i64 A,.agg (aB y),.agg (aB z)] w fun r w'=>dJ w w' lo q u (bK c y.cell y.seen m A,y,true) r:=(qH c m A y z q u lo w h1 F D E).1 G
theorem Am (c:Ch) (m A:Int) (y z:Ha) (q u:Value) (lo:Nat) (w:World) (h1:aD w lo q c.cells) (F:aG w lo u c.words) (D:0≤y.cell) (E:y.cell<c.cells.length) (G:bQ c y.cell y.seen m A=false) :
  Calls prog 265 #[.agg (aF c q u),.int .i64 m,.int .i64 A,.agg (aB y),.agg (aB z)] w fun r w'=>dJ w w' lo q u (bK c y.cell y.seen m A,z,true) r:=(qH c m A y z q u lo w h1 F D E).2 G
theorem mo {c:Ch} {i f t v:Int} (h:bQ c i f t v=false):bK c i f t v=c:=by
 have e:lG (cellAt c i) f t v=cellAt c i:=by
  have r:jS (cellAt c i).s (cellAt c i).e (cellAt c i).t f t v=false:=h
  simp [lG,ng,vz,r]
 unfold bK setAt
 rw [e]
 unfold cellAt
 have:c.cells.set i.toNat (c.cells.getD i.toNat ⟨0,0,0⟩)=c.cells:=by
  apply List.ext_getElem?
  intro n
  rw [List.getElem?_set]
  by_cases q:i.toNat=n
  ·subst q
   by_cases m:i.toNat<c.cells.length
   ·simp [m]
   ·simp [m,Nat.le_of_not_lt m]
  ·simp [q]
 rw [this]
theorem oM (c:Ch) (m q:Int) (y z:Ha) (E F:Value) (lo:Nat) (w:World) (h1:aD w lo E c.cells) (G:aG w lo F c.words) (u:0≤y.cell) (A:y.cell<c.cells.length) :
  Calls prog 265 #[.agg (aF c E F),.int .i64 m,.int .i64 q,.agg (aB y),.agg (aB z)] w fun r w'=>dJ w w' lo E F (uX c m q y z) r:=by
 cases D:bQ c y.cell y.seen m q with
 | true =>
  rw [show uX c m q y z=(bK c y.cell y.seen m q,y,true) by simp [uX,D]]
  exact Al c m q y z E F lo w h1 G u A D
 | false =>
  have:=Am c m q y z E F lo w h1 G u A D
  rw [mo D] at this
  rw [show uX c m q y z=(c,z,true) by simp [uX,D]]
  exact this
end
section
open Go.RowKit
def H7 (x:Value):Sem Value:=Instr.loadAt 44 x
theorem H8 (x:Value):Instr.loadAt 44 x=H7 x:=by unfold H7;simp
theorem H9 {w:World} {b o:Nat} (x:De) (h:∀ j,j<7→w.cell? ⟨b,o+j,none⟩=some ((gM x).getD j (.int .i64 0))):(H7 (.pointer (some ⟨b,o,none⟩))).run prog w=.ok (.agg (gM x)) w:=by
 have m:=h 0 tO
 have h1:=h 1 tO
 have q:=h 2 tO
 have r:=h 3 tO
 have u:=h 4 tO
 have y:=h 5 tO
 have h6:=h 6 tO
 simp [gM,Array.getD] at m h1 q r u y h6
 simp [H7,gM,go_sem, *]
def LW (x:Value):Sem Value:=Instr.loadAt 167 x
theorem LX (x:Value):Instr.loadAt 167 x=LW x:=by unfold LW;simp
def PG (x v:Value):Sem Unit:=Instr.storeAt 44 x v
theorem OI (x v:Value):Instr.storeAt 44 x v=PG x v:=by unfold PG;simp
attribute [local go_sem ↓] H8 LX OI
theorem OJ (n:Nat) (h:n≤1048576) (W:World):(Instr.makeSlice 33 (.int .i64 n) (.int .i64 n)).run prog W=.ok (.slice (some ⟨W,0,none⟩) n n) (W.alloc (.cells (madeCells (gM De.zero) (n*7)) 44)):=by
 obtain ⟨i,q,r,hs,m⟩:=info_parts nV
 have:=run_make (P:=prog) W 33 44 i _ underlying33 q r .i64 .i64 n n tO tO (by rw [m];omega) tO
 rw [this,hs]
 simp [Value.cells]
end
end Go.Proofs.YtffhjmepfojhnaaGreat
