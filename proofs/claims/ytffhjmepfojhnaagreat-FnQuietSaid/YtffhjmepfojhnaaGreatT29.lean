/-
  The program's world of its own: a copy behind a pointer; the lists lie in memory and hold at most 1048576 elements.
-/
import Derived.Test.YtffhjmepfojhnaaGreatT22
import Derived.Test.YtffhjmepfojhnaaGreatT03
import Derived.Test.YtffhjmepfojhnaaGreatT02
import Derived.Test.YtffhjmepfojhnaaGreatT24
import Derived.Test.YtffhjmepfojhnaaGreatT20
import Derived.Test.YtffhjmepfojhnaaGreatT05
set_option linter.unusedSimpArgs false
set_option linter.unusedVariables false
namespace Go.Proofs.YtffhjmepfojhnaaGreat
open _root_.Go.Proofs.Tryz
section
open Go.RowKit
attribute [local simp] dz
end
section
open Go.RowKit
theorem Lb {w:World} {B:Nat} {x:Wo} {v1 v2 v3 v4:Value} (z:hp w B=some (.cells (KX x v1 v2 v3 v4) 35)):(F4 (.pointer (some ⟨B,0,none⟩))).run prog w=.ok (.agg (aH x.ch v1 v2)) w:=by
 have F:w.cell? ⟨B,0,none⟩=some (.int .i64 x.ch.cap):=(bO z).1 0;have h1:w.cell? ⟨B,1,none⟩=some (.int .i64 x.ch.sent):=(bO z).1 1;have h2:w.cell? ⟨B,2,none⟩=some (.int .i64 x.ch.got):=(bO z).1 2;have h3:w.cell? ⟨B,3,none⟩=some (.int .i64 x.ch.fin):=(bO z).1 3;have G:w.cell? ⟨B,4,none⟩=some v1:=(bO z).1 4;have H:w.cell? ⟨B,5,none⟩=some v2:=(bO z).1 5;unfold F4;simp [aH,go_sem, *]
attribute [local simp] dz
attribute [local go_sem ↓] dA fU dO gW dP gY dW fE bK eO
attribute [local go_sem ↓] jv
attribute [local go_sem] iG
end
section
def bz (h:Ha):Nat:=if h.pos=0 then 0 else 1
def Dw (hs:List Ha):Nat:=jl (fun i=>bz (aD hs i)) hs.length
def due (x:Wo):Nat:=x.deals.length+Dw x.hands
def Ey (x:Wo) (g:Gh):Nat:=2*PL g+jl (fun i=>vh (aD x.hands i)) x.hands
structure Live (x:Wo) (g:Gh) (D E:List Nat):Prop where
 r:eP x
 m:Mine x.ch x.hands
 h:wE x g D E
 t:∃ ts tr P,JO x g D E ts tr P
 b:∀ d,d ∈ x.deals→d.beg<d.fin
theorem Ez {f:Ha→Nat} {hs:List Ha} {i:Nat} (h':Ha) (F:i<hs.length):jl (fun j=>f (aD (hs.set i h') j)) (hs.set i h').length+f (aD hs i)=jl (fun j=>f (aD hs j)) hs.length+f h':=by
 rw [List.length_set]
 have:=oM (f:=fun j=>f (aD hs j)) (f':=fun j=>f (aD (hs.set i h') j)) F (fun m _ G=>by
  show f (aD (hs.set i h') m)=f (aD hs m)
  rw [dI h' F,if_neg (fun e=>G e.symm)])
 simp only [dI h' F,if_pos] at this ⊢;exact this
theorem mf (x:Wo) (i:Nat):aJ x (i:Int)=aD x.hands i:=by simp [aJ,aD]
theorem Bj {x:Wo} {i:Nat} (hs:(bP x (i:Int)).2=true):∃ c' h',fu x.ch (aD x.hands i)=(c',h',true)∧(bP x (i:Int)).1.ch=c'∧(bP x (i:Int)).1.hands=x.hands.set i h'∧(bP x (i:Int)).1.now=x.now+1 ∧
  ((h'.pos≠0∧(bP x (i:Int)).1.deals.length=x.deals.length)∨(h'.pos=0∧(bP x (i:Int)).1.deals.length=x.deals.length+1)):=by
 unfold bP stepW at hs ⊢;rw [mf] at hs ⊢;generalize fu x.ch (aD x.hands i)=s at hs ⊢;obtain ⟨c',h',H⟩:=s;cases H with
 | false=>simp at hs
 | true =>
  by_cases G:x.now=20000
  ·simp [G] at hs
  ·by_cases hp:h'.pos=0
   ·by_cases F:1000≤x.deals.length∨jT (aD x.hands i).code (aD x.hands i).elem h'.reply=false
    ·simp [G,hp,F] at hs
    ·refine ⟨c',h',rfl,?_⟩
     simp [G,hp,F,fQ]
   ·refine ⟨c',h',rfl,?_⟩
    simp [G,hp,fQ]
theorem Nr {x:Wo} {i:Nat} {c':Ch} {h':Ha} (e:fu x.ch (aD x.hands i)=(c',h',true)) (F:x.now≠20000) (G:x.deals.length<1000) (hr:h'.pos=0→jT (aD x.hands i).code (aD x.hands i).elem h'.reply=true):(bP x (i:Int)).2=true:=by
 unfold bP stepW;rw [mf,e];by_cases hp:h'.pos=0
 ·have:=hr hp
  have:¬ 1000≤x.deals.length:=by omega
  simp [*]
 ·simp [F,hp]
theorem wH {c:Ch} {h:Ha} (p:h.pos=0):(fu c h).2.2=false:=by
 unfold fu;rw [if_neg (by simp [dV,p]),if_neg (by simp [dV,p]),if_neg (by simp [dV,p])];have:bC c h 23 25 0=false:=by simp [bC,dV,p]
 unfold bJ;rw [this];rfl
theorem E5 {h:Ha} (p:h.pos=0):bz h=0:=by unfold bz;rw [if_pos p]
theorem zC {h:Ha} (p:h.pos≠0):bz h=1:=by unfold bz;rw [if_neg p]
theorem Live.task {x:Wo} {i:Nat} (F:i<x.hands.length):bW x (i:Int)=true:=by
 simp [bW,gP,dV];omega
theorem Live.step {x:Wo} {g:Gh} {D E:List Nat} (L:Live x g D E) {i:Nat} (H:i<x.hands.length):∃ g' O U,Live (bP x (i:Int)).1 g' O U∧due (bP x (i:Int)).1=due x∧(bP x (i:Int)).1.hands.length=x.hands.length ∧
  (((bP x (i:Int)).2=true∧Ey (bP x (i:Int)).1 g'<Ey x g∧(bP x (i:Int)).1.now=x.now+1)∨((bP x (i:Int)).2=false∧(bP x (i:Int)).1=x∧g'=g)):=by
 cases hs:(bP x (i:Int)).2 with
 | false =>
  rw [Mo hs];exact ⟨g,D,E,L,rfl,rfl,.inr ⟨rfl,rfl,rfl⟩⟩
 | true =>
  obtain ⟨g',FN,O,U,Y,A⟩:=L.h.step H;obtain ⟨F,ev,N⟩:=FN hs;obtain ⟨c',h',K,e1,J,Z,X⟩:=Bj hs;have R:=(ll L.r (Live.task H) hs).1;have p0:(aD x.hands i).pos≠0:=fun p=>by
   have:=wH (c:=x.ch) p;rw [K] at this;cases this
  have M:=L.r.hs (aD x.hands i) (by unfold aD;rw [List.getD_eq_getElem?_getD,List.getElem?_eq_getElem H];exact List.getElem_mem H);refine ⟨g',O,U,⟨R,?_,Y,?_,?_⟩,?_,?_,.inl ⟨rfl,?_,Z⟩⟩
  ·rw [e1,J];exact L.m.step H K
  ·obtain ⟨ts,tr,P,T⟩:=L.t
   rw [J,dI h' H,if_pos rfl] at N;have G:=(good_step x.ch (aD x.hands i) (by rw [K])).2.2.1;rw [K] at G;exact T.step L.h Y H N A Z J G (vX M.1).1 M.2
  ·intro d I
   rcases A with ⟨V,_⟩|⟨d',V,a2,a3,_⟩
   ·rw [V] at I;exact L.b d I
   ·rw [V] at I
    rcases List.mem_append.1 I with I|I
    ·exact L.b d I
    ·simp at I
     subst I;have:=M.2;omega
  ·have S:=Ez (f:=bz) h' H
   unfold due Dw;rw [J];have b1:=zC p0;rcases X with ⟨hp,X⟩|⟨hp,X⟩
   ·have:=zC hp
    omega
   ·have:=E5 hp
    omega
  ·rw [J,List.length_set]
  ·rw [J,dI h' H,if_pos rfl] at F
   have S:=Ez (f:=vh) h' H;unfold xP at F;unfold Ey;rw [J];omega
theorem Qz {f:Nat→Nat} {n i:Nat} (F:i<n) (h:f i≠0):1≤jl f n:=by
 have:=PU (f:=f) F;omega
theorem Live.stuck {x:Wo} {g:Gh} {D E:List Nat} (L:Live x g D E) (Y:x.now<20000) (T:due x≤1000) (no:∀ i,i<x.hands.length→(bP x (i:Int)).2=false):Still x.ch x.hands:=by
 have M:∀ i,i<x.hands.length→aU (aD x.hands i)=true:=fun i hi=>by
  exact Ou
 refine L.h.q.stuck L.m L.r.ch M fun i hi=>?_
 cases hs:(fu x.ch (aD x.hands i)).2.2 with
 | false=>rfl
 | true =>
  exfalso;generalize F:fu x.ch (aD x.hands i)=s at hs;obtain ⟨c',h',R⟩:=s;have hs:R=true:=hs;subst hs;have O:(aD x.hands i).pos≠0:=fun p=>by
   have:=wH (c:=x.ch) p;rw [F] at this;cases this
  have b:1≤Dw x.hands:=Qz hi (by show bz _≠0;rw [zC O];omega);have d:x.deals.length<1000:=by unfold due at T;omega
  have G:=(good_step x.ch (aD x.hands i) (by rw [F])).2.1;rw [F] at G;have B:=(hb_iff.1 G).2.reply;have H:=Tj x.ch (aD x.hands i);rw [F] at H;have H:=H rfl;obtain ⟨g',Q',⟨ev,N⟩,_⟩:=L.h.q.step hi F;have K:=xQ (M i hi) O;have:=Nr F tO d fun hp=>by
   have Z:h'.reply≠0:=H.resolve_left (fun h=>h hp);have V:h'.reply=1→(aD x.hands i).code=1:=fun r=>by
    obtain ⟨n,e⟩:=N.ok1 hp r;have:=(N.oke n e).1;unfold sc at this;split at this
    ·rename_i h;exact h.1
    ·cases this
   have X:h'.reply=2→(aD x.hands i).code=2:=fun r=>by
    obtain ⟨n,e⟩:=N.val1 hp r;have:=(N.vale n e).1;unfold rc at this;split at this
    ·rename_i h;exact h.1
    ·cases this
   have B:0≤h'.reply∧h'.reply≤4:=B;have U:dV h'.reply 1 4=true:=by rw [dK];omega
   unfold jT;rw [K,U];by_cases I:h'.reply=1
   ·simp [V I,I]
   ·by_cases J:h'.reply=2
    ·simp [X J,J]
    ·simp [I,J]
  rw [no i hi] at this;cases this
end
section
theorem Ns {w:World} {p q:Addr} {v z:Int} (h:w.cell? q=some (.int .i64 z)):∃ y:Int,(w.setCell p (.int .i64 v)).cell? q=some (.int .i64 y):=by
 by_cases e:p=q
 ·subst e;exact ⟨v,World.cell?_setCell_same' w p _ (by rw [h];rfl)⟩
 ·exact ⟨z,(World.cell?_setCell_other _ _ _ _ e).trans h⟩
def WG:Value→Int
 | .int _ z=>z
 | _=>0
theorem Seg.poke {w:World} {B n k:Nat} {a:Option Addr} {f:Nat→Nat→Value} (h:Seg w B a n k f) (H:∀ i j,j<k→∃ z:Int,f i j=.int .i64 z) (p:Addr) (v:Int):∃ g:Nat→Nat→Int,Seg (w.setCell p (.int .i64 v)) B a n k (fun i j=>.int .i64 (g i j)):=by
 rcases h with h|⟨b,o,rfl,G,hc⟩
 ·exact ⟨fun _ _=>0,.inl h⟩
 ·refine ⟨fun i j=>WG (((w.setCell p (.int .i64 v)).cell? ⟨b,o+i*k+j,none⟩).getD (.int .i64 0)),.inr ⟨b,o,rfl,G,fun i j I F=>?_⟩⟩
  obtain ⟨z,K⟩:=H i j F;obtain ⟨y,J⟩:=Ns (p:=p) (v:=v) ((hc i j I F).trans (by rw [K]));simp only [J];rfl
theorem Seg.alike {w:World} {B n k:Nat} {a:Option Addr} {f g:Nat→Nat→Value} (h:Seg w B a n k f) (e:∀ i j,i<n→j<k→f i j=g i j):Seg w B a n k g:=by
 rcases h with h|⟨b,o,rfl,H,hc⟩
 ·exact .inl h
 ·exact .inr ⟨b,o,rfl,H,fun i j F G=>by rw [hc i j F G,e i j F G]⟩
theorem Q0 (m:Nat) (g:Nat→Nat→Int):∃ l:List C3,l.length=m∧∀ i j,i<m→j<3→Value.int .i64 (g i j)=jy l i j :=
 ⟨(List.range m).map fun i=>⟨g i 0,g i 1,g i 2⟩,by simp,fun i j F G=>by
  have:j=0∨j=1∨j=2:=by omega
  rcases this with rfl|rfl|rfl <;> simp [jy,C3.val,List.getD,F]⟩
theorem Q3 (m:Nat) (g:Nat→Nat→Int):∃ l:List Int,l.length=m∧∀ i j,i<m→j<1→Value.int .i64 (g i j)=lG l i j :=
 ⟨(List.range m).map fun i=>g i 0,by simp,fun i j F G=>by
  have:j=0:=by omega
  rcases this with rfl <;> simp [lG,List.getD,F]⟩
theorem Q4 (m:Nat) (g:Nat→Nat→Int):∃ l:List Ha,l.length=m∧∀ i j,i<m→j<14→Value.int .i64 (g i j)=fO l i j :=
 ⟨(List.range m).map fun i=>⟨g i 0,g i 1,g i 2,g i 3,g i 4,g i 5,g i 6,g i 7,g i 8,g i 9,g i 10,g i 11,g i 12,g i 13⟩,by simp,fun i j F G=>by
  have:j=0∨j=1∨j=2∨j=3∨j=4∨j=5∨j=6∨j=7∨j=8∨j=9∨j=10∨j=11∨j=12∨j=13:=by omega
  rcases this with rfl|rfl|rfl|rfl|rfl|rfl|rfl|rfl|rfl|rfl|rfl|rfl|rfl|rfl <;> simp [fO,aB,List.getD,F]⟩
theorem Q5 (m:Nat) (g:Nat→Nat→Int):∃ l:List De,l.length=m∧∀ i j,i<m→j<7→Value.int .i64 (g i j)=sQ l i j :=
 ⟨(List.range m).map fun i=>⟨g i 0,g i 1,g i 2,g i 3,g i 4,g i 5,g i 6⟩,by simp,fun i j F G=>by
  have:j=0∨j=1∨j=2∨j=3∨j=4∨j=5∨j=6:=by omega
  rcases this with rfl|rfl|rfl|rfl|rfl|rfl|rfl <;> simp [sQ,jk,List.getD,F]⟩
theorem Nw (l:List C3) (i:Nat):∀ j,j<3→∃ z:Int,jy l i j=.int .i64 z
 | 0,_=>⟨_,rfl⟩
 | 1,_=>⟨_,rfl⟩
 | 2,_=>⟨_,rfl⟩
 | _+3,h=>absurd h tO
theorem Nz (l:List Int) (i:Nat):∀ j,j<1→∃ z:Int,lG l i j=.int .i64 z
 | 0,_=>⟨_,rfl⟩
 | _+1,h=>absurd h tO
theorem N7 (l:List Ha) (i:Nat):∀ j,j<14→∃ z:Int,fO l i j=.int .i64 z
 | 0,_=>⟨_,rfl⟩
 | 1,_=>⟨_,rfl⟩
 | 2,_=>⟨_,rfl⟩
 | 3,_=>⟨_,rfl⟩
 | 4,_=>⟨_,rfl⟩
 | 5,_=>⟨_,rfl⟩
 | 6,_=>⟨_,rfl⟩
 | 7,_=>⟨_,rfl⟩
 | 8,_=>⟨_,rfl⟩
 | 9,_=>⟨_,rfl⟩
 | 10,_=>⟨_,rfl⟩
 | 11,_=>⟨_,rfl⟩
 | 12,_=>⟨_,rfl⟩
 | 13,_=>⟨_,rfl⟩
 | _+14,h=>absurd h tO
theorem N8 (l:List De) (i:Nat):∀ j,j<7→∃ z:Int,sQ l i j=.int .i64 z
 | 0,_=>⟨_,rfl⟩
 | 1,_=>⟨_,rfl⟩
 | 2,_=>⟨_,rfl⟩
 | 3,_=>⟨_,rfl⟩
 | 4,_=>⟨_,rfl⟩
 | 5,_=>⟨_,rfl⟩
 | 6,_=>⟨_,rfl⟩
 | _+7,h=>absurd h tO
theorem lX.poke {w:World} {B:Nat} {x:Wo} {a b d e:Option Addr} (h:lX w B x a b d e) (p:Addr) (v:Int):∃ y:Wo,lX (w.setCell p (.int .i64 v)) B y a b d e∧(y.ch.cap=x.ch.cap∧y.ch.sent=x.ch.sent∧y.ch.got=x.ch.got∧y.ch.fin=x.ch.fin∧y.now=x.now)∧(y.ch.cells.length=x.ch.cells.length∧y.ch.words.length=x.ch.words.length∧y.hands.length=x.hands.length∧y.deals.length=x.deals.length):=by
 obtain ⟨R,s1⟩:=Seg.poke h.1 (Nw _) p v;obtain ⟨T,s2⟩:=Seg.poke h.2.1 (Nz _) p v;obtain ⟨U,s3⟩:=Seg.poke h.2.2.1 (N7 _) p v;obtain ⟨V,s4⟩:=Seg.poke h.2.2.2 (N8 _) p v;obtain ⟨X,F,L⟩:=Q0 x.ch.cells R;obtain ⟨Y,G,M⟩:=Q3 x.ch.words T;obtain ⟨Z,H,N⟩:=Q4 x.hands U;obtain ⟨l4,I,O⟩:=Q5 x.deals V;have t1:=s1.alike L;have t2:=s2.alike M;have J:=s3.alike N;have K:=s4.alike O;rw [← F] at t1;rw [← G] at t2;rw [← H] at J
 rw [← I] at K;exact ⟨⟨⟨x.ch.cap,x.ch.sent,x.ch.got,x.ch.fin,X,Y⟩,Z,l4,x.now⟩,⟨t1,t2,J,K⟩,⟨rfl,rfl,rfl,rfl,rfl⟩,F,G,H,I⟩
end
section
def jq:Nat→Nat→Wo→Wo × Bool
 | 0,_,x=>(x,false)
 | k+1,i,x=>if (aD x.hands i).pos=0 then jq k (i+1) x else ((jq k (i+1) (bP x (i:Int)).1).1,(bP x (i:Int)).2 || (jq k (i+1) (bP x (i:Int)).1).2)
def xA (x:Wo):Wo × Bool:=jq x.hands 0 x
def Q6 (x:Wo):Bool:=x.hands.all fun h=>h.pos == 0
def mg:Nat→Wo→Wo × Nat
 | 0,x=>(x,0)
 | n+1,x=>if Q6 x then (x,0) else if (xA x).2 then ((mg n (xA x).1).1,(mg n (xA x).1).2+1) else (x,0)
theorem Live.round {x:Wo} {g:Gh} {D E:List Nat} (k:Nat):∀ {i:Nat} {x:Wo} {g:Gh} {D E:List Nat} (_:Live x g D E) (_:i+k=x.hands.length),∃ g' H I,Live (jq k i x).1 g' H I∧due (jq k i x).1=due x∧(jq k i x).1.hands.length=x.hands.length ∧
  Ey (jq k i x).1 g'≤Ey x g∧((jq k i x).2=true→Ey (jq k i x).1 g'<Ey x g)∧(jq k i x).1.now+(Ey (jq k i x).1 g':Int)≤x.now+(Ey x g:Int)∧((jq k i x).2=false→(jq k i x).1=x∧g'=g∧∀ j,i≤j→j<x.hands.length→(bP x (j:Int)).2=false):=by
 clear x g D E;induction k with
 | zero=>exact fun {i x g D E} L e=>⟨g,D,E,L,rfl,rfl,Nat.le_refl _,fun h=>(by cases h),Int.le_refl _,fun _=>⟨rfl,rfl,fun j a b=>by omega⟩⟩
 | succ k ih =>
  intro i x g D E L e;unfold jq;by_cases p:(aD x.hands i).pos=0
  ·rw [if_pos p]
   obtain ⟨g',H,I,O,R,T,J,U,K,V⟩:=ih L (i:=i+1) tO;refine ⟨g',H,I,O,R,T,J,U,K,fun h=>?_⟩;obtain ⟨X,Y,M⟩:=V h;refine ⟨X,Y,fun j hj Z=>?_⟩;by_cases ij:j=i
   ·subst ij
    cases hs:(bP x (j:Int)).2 with
    | false=>rfl
    | true =>
     obtain ⟨c',h',es,_⟩:=Bj hs;have:=wH (c:=x.ch) p;rw [es] at this;cases this
   ·exact M j tO Z
  ·rw [if_neg p]
   obtain ⟨g1,D1,E1,L1,d1,l1,o⟩:=L.step (i:=i) tO;obtain ⟨g',H,I,O,R,T,J,U,K,V⟩:=ih L1 (i:=i+1) tO;refine ⟨g',H,I,O,R.trans d1,T.trans l1,?_,?_,?_,?_⟩
   ·rcases o with ⟨_,F,_⟩|⟨_,F,G⟩
    ·show Ey (jq k (i+1) (bP x (i:Int)).1).1 g'≤Ey x g
     omega
    ·rw [F,G] at J;rw [F];exact J
   ·intro h
    rcases o with ⟨_,F,_⟩|⟨N,F,G⟩
    ·show Ey (jq k (i+1) (bP x (i:Int)).1).1 g'<Ey x g
     omega
    ·have h:((bP x (i:Int)).2 || (jq k (i+1) (bP x (i:Int)).1).2)=true:=h
     rw [N,Bool.false_or] at h;have:=U h;rw [F,G] at this;rw [F];exact this
   ·rcases o with ⟨_,F,o4⟩|⟨_,F,G⟩
    ·show (jq k (i+1) (bP x (i:Int)).1).1.now+(Ey (jq k (i+1) (bP x (i:Int)).1).1 g':Int)≤x.now+(Ey x g:Int)
     omega
    ·rw [F,G] at K;rw [F];exact K
   ·intro h
    have h:((bP x (i:Int)).2 || (jq k (i+1) (bP x (i:Int)).1).2)=false:=h;rw [Bool.or_eq_false_iff] at h;obtain ⟨X,Y,M⟩:=V h.2;rcases o with ⟨N,_⟩|⟨_,F,G⟩
    ·rw [h.1] at N;cases N
    ·rw [F] at M
     refine ⟨X.trans F,Y.trans G,fun j hj Z=>?_⟩;by_cases ij:j=i
     ·subst ij;exact h.1
     ·exact M j tO Z
theorem Live.settle (n:Nat):∀ {x:Wo} {g:Gh} {D E:List Nat} (_:Live x g D E) (_:due x≤1000) (_:x.now+(Ey x g:Int)<20000) (_:Ey x g<n),∃ g' G H,Live (mg n x).1 g' G H∧Still (mg n x).1.ch (mg n x).1.hands∧due (mg n x).1=due x∧(mg n x).1.hands.length=x.hands.length:=by
 induction n with
 | zero=>intro x g D E L _ _ h;omega
 | succ n ih =>
  intro x g D E L J hn hp;unfold mg;by_cases r:Q6 x=true
  ·rw [if_pos r]
   refine ⟨g,D,E,L,fun i F=>.inl ?_,rfl,rfl⟩;have:=List.all_eq_true.1 r (x.hands[i]) (List.getElem_mem F);unfold aD;rw [List.getD_eq_getElem?_getD,List.getElem?_eq_getElem F];simpa using this
  ·rw [if_neg r]
   obtain ⟨g',G,H,N,I,R,a3,T,a5,U⟩:=Live.round (x:=x) (g:=g) (D:=D) (E:=E) x.hands L (i:=0) tO;cases h:(xA x).2 with
   | true =>
    rw [if_pos rfl];have p:=T h;obtain ⟨Y,K,M,O,s2,X,Z⟩:=ih N (by rw [I];exact J) tO tO;exact ⟨Y,K,M,O,s2,X.trans I,Z.trans R⟩
   | false =>
    rw [if_neg cK];obtain ⟨_,_,V⟩:=U h;exact ⟨g,D,E,L,L.stuck tO J fun i F=>V i tO F,rfl,rfl⟩
end
section
theorem In.rk_le {x:Lc} (h:In x):rk x≤24:=by
 have:=h.fact (fun x=>Nat.ble (rk x) 24) bH;exact Nat.le_of_ble_eq_true this
theorem Live.pot_le {x:Wo} {g:Gh} {D E:List Nat} (L:Live x g D E):Ey x g≤1932:=by
 have h1:PL g≤24*40:=DU fun m F=>(L.h.q.way m F).rk_le
 have h2:jl (fun i=>vh (aD x.hands i)) x.hands≤2*x.hands.length:=DU fun m _=>by
  show vh _≤2;unfold vh;split <;> (try split) <;> omega
 have:=L.r.h6;unfold Ey;omega
theorem Q7 (n:Nat):Dw (List.replicate n (aM 0 0))=0:=qM fun i _=>E5 (nM n i)
theorem Live.new (cap tasks:Int) (G:0≤cap) (h1:cap≤4) (h2:1≤tasks) (h3:tasks≤6):∃ g,Live (dS cap tasks).1 g [] []∧due (dS cap tasks).1=0∧(dS cap tasks).1.now=0∧(dS cap tasks).1.hands.length=tasks.toNat:=by
 obtain ⟨_,R,l,_⟩:=uT G h1 h2 h3;have F:dV cap 0 4=true:=lF G h1;have e:dS cap tasks=(⟨fI cap,List.replicate tasks.toNat (aM 0 0),[],0⟩,true):=by simp [dS,F,lF h2 h3]
 have J:fI cap=⟨cap,0,0,cap,List.replicate 40 C3.zero,[]⟩:=by simp [fI,F]
 rw [e,J] at R l ⊢;obtain ⟨k,L⟩:∃ k:Nat,cap=(k:Int):=⟨cap.toNat,by omega⟩;subst L;obtain ⟨g,H⟩:=wE.new k tasks.toNat tO;have Z:∀ n,n<40→(g.lc n).sp=0∧(g.lc n).rp=0:=fun n I=>by
  have a:=H.q.cS n I;have b:=H.q.cR n I;refine ⟨Classical.byContradiction fun h=>?_,Classical.byContradiction fun h=>?_⟩
  ·have:=a.1 h
   have:(n:Int)<0:=this;omega
  ·have:=b.1 h
   have:(n:Int)<0:=this;omega
 refine ⟨g,⟨R,Mine.new _ _,H,⟨_,_,_,JO.new rfl (fun i=>nM _ i) Z⟩,fun d K=>by cases K⟩,?_,rfl,l⟩;unfold due;rw [Q7];rfl
theorem Live.ask {x:Wo} {g:Gh} {D E:List Nat} (L:Live x g D E) {i:Nat} (hi:i<x.hands.length) (k e:Int):∃ g' J M,Live (asked x (i:Int) k e).1 g' J M∧(asked x (i:Int) k e).1.hands.length=x.hands.length ∧
  ((asked x (i:Int) k e).2=0→due (asked x (i:Int) k e).1=due x+1∧(asked x (i:Int) k e).1.now=x.now+1)∧((asked x (i:Int) k e).2≠0→(asked x (i:Int) k e).1=x):=by
 have R:=uj (k:=k) (e:=e) L.r (Live.task hi);have ok:(dB x && bW x (i:Int))=true:=by simp [(eZ x).2 L.r,Live.task hi]
 refine ?_;unfold asked at R ⊢;rw [if_pos ok,mf] at R ⊢;by_cases c0:(called (aD x.hands i) k e).2=0
 ·rw [if_neg (by simp [c0])] at R ⊢
  by_cases I:x.now=20000
  ·rw [if_pos (by simp [I])] at R ⊢
   exact ⟨g,D,E,L,rfl,fun h=>absurd (show (1:Int)=0 from h) tO,fun _=>rfl⟩
  ·rw [if_neg (by simp [I])] at R ⊢
   have O:aU (aD x.hands i)=true:=by
    exact Ou
   have C:(aD x.hands i).pos=0∧eD k e=true∧(called (aD x.hands i) k e).1=begun k e 0:=by
    unfold called at c0 ⊢;rw [if_pos O] at c0 ⊢;by_cases p:(aD x.hands i).pos=0
    ·rw [if_pos (by simp [p])] at c0 ⊢
     by_cases q:eD k e=true
     ·rw [if_pos q];exact ⟨p,q,rfl⟩
     ·rw [if_neg q] at c0;cases c0
    ·rw [if_neg (by simp [p])] at c0;cases c0
   obtain ⟨p,q,N⟩:=C;have F:k=1∨k=2:=by simp [eD] at q;omega
   rw [N] at R ⊢;have K:((({ begun k e 0 with beg:=x.now+1 }:Ha).code=1∧({ begun k e 0 with beg:=x.now+1 }:Ha).pos=1)∨(({ begun k e 0 with beg:=x.now+1 }:Ha).code=2∧({ begun k e 0 with beg:=x.now+1 }:Ha).pos=9)):=by
    rcases F with rfl|rfl
    ·exact .inl ⟨rfl,rfl⟩
    ·exact .inr ⟨rfl,rfl⟩
   have H:=L.h.ask (now:=x.now+1) hi p K;have U:({ begun k e 0 with beg:=x.now+1 }:Ha).pos≠0:=by rcases K with K|K <;> rw [K.2] <;> omega
   have G:({ begun k e 0 with beg:=x.now+1 }:Ha).pos<24:=by rcases K with K|K <;> rw [K.2] <;> omega
   obtain ⟨ts,tr,P,T⟩:=L.t;have X:sc ({ begun k e 0 with beg:=x.now+1 }:Ha)=none:=by
    rcases K with K|K
    ·exact mU (by rw [K.2];omega)
    ·exact jg K.1
   have V:rc ({ begun k e 0 with beg:=x.now+1 }:Ha)=none:=by
    rcases K with K|K
    ·exact jr K.1
    ·exact iO (by rw [K.2];omega)
   have S:=Ez (f:=bz) { begun k e 0 with beg:=x.now+1 } hi
   refine ⟨g,D,E,⟨R.1,L.m.set hi G (Nat.le_refl _),H,⟨ts,tr,P,T.ask hi X V⟩,L.b⟩,R.2.1,fun _=>⟨?_,rfl⟩,fun h=>absurd rfl h⟩;show x.deals.length+Dw (x.hands.set i _)=_;have Y:=E5 p;have Z:=zC U;unfold due Dw;omega
 ·rw [if_pos (by simpa using c0)] at R ⊢
  exact ⟨g,D,E,L,rfl,fun h=>absurd h c0,fun _=>rfl⟩
theorem Live.stop {x:Wo} {g:Gh} {D E:List Nat} (L:Live x g D E) {i:Nat} (F:i<x.hands.length):∃ g' G I,Live (stopped x (i:Int)).1 g' G I∧(stopped x (i:Int)).1.hands.length=x.hands.length∧due (stopped x (i:Int)).1=due x∧(stopped x (i:Int)).1.now=x.now:=by
 have R:=qf L.r (Live.task F);have ok:(dB x && bW x (i:Int))=true:=by simp [(eZ x).2 L.r,Live.task F]
 unfold stopped at R ⊢;rw [if_pos ok,mf] at R ⊢;by_cases p:(aD x.hands i).pos=23
 ·rw [if_neg (by simp [p])] at R ⊢
  obtain ⟨g',H,J,K⟩:=L.h.stop F p;obtain ⟨ts,tr,P,T⟩:=L.t;exact ⟨g',D,E,⟨R.1,L.m.tell _ _,H,⟨ts,tr,P,T.stop J K⟩,L.b⟩,rfl,rfl,rfl⟩
 ·rw [if_pos (by simpa using p)] at R ⊢
  exact ⟨g,D,E,L,rfl,rfl,rfl⟩
end
section
theorem JV (p:Nat→Bool) (n:Nat):((List.range n).filter p).length=jl (fun m=>if p m=true then 1 else 0) n:=by
 induction n with
 | zero=>rfl
 | succ n ih =>
  rw [List.range_succ,List.filter_append,List.length_append,ih];show _=jl _ n+(if p n=true then 1 else 0);congr 1;by_cases h:p n=true
  ·simp [h]
  ·simp [h]
theorem NA {c:Ch} {hs:List Ha} {g:Gh} (q:Q c hs g) (hc:aN c=true):(keptIn c).length=sS g:=by
 rw [MS q hc,List.length_map];unfold JN sS;rw [JV];refine mR fun m _=>?_
 show (if ((g.lc m).s == 2)=true then 1 else 0)=uK (g.lc m);unfold uK;by_cases h:(g.lc m).s=2
 ·simp [h]
 ·simp [h]
theorem Live.fair {x:Wo} {g:Gh} {D E:List Nat} (L:Live x g D E) (U:Still x.ch x.hands) :
  ((keptIn x.ch).length:Int)≤x.ch.cap∧(∀ i,i<x.hands.length→(aD x.hands i).pos=23→(aD x.hands i).code=1→((keptIn x.ch).length:Int)=x.ch.cap) ∧
  (∀ i,i<x.hands.length→(aD x.hands i).pos=23→(aD x.hands i).code≠1→(keptIn x.ch).length=0∧∀ j,j<x.hands.length→(aD x.hands j).pos=23→(aD x.hands j).code≠1):=by
 have C:=iT.1 L.r.ch;have F:=L.h.q.fair U C.fin C.cap.1;rw [NA L.h.q L.r.ch];obtain ⟨J,K,M⟩:=F;have sw:∀ i,i<x.hands.length→(aD x.hands i).pos=23→(aD x.hands i).code=1→∃ n,n<40∧(g.lc n).sp=23:=by
  intro i G p k;cases L.h.q.hand i G with
  | sW n H k ce el p z m=>exact ⟨n,H,z⟩
  | _=>omega
 have I:∀ i,i<x.hands.length→(aD x.hands i).pos=23→(aD x.hands i).code≠1→∃ n,n<40∧(g.lc n).rp=23:=by
  intro i G p k;cases L.h.q.hand i G with
  | rW n H k ce p z m=>exact ⟨n,H,z⟩
  | _=>omega
 refine ⟨J,fun i G p k=>?_,fun i G p k=>?_⟩
 ·obtain ⟨n,H,z⟩:=sw i G p k
  exact K n H z
 ·obtain ⟨n,H,z⟩:=I i G p k
  obtain ⟨a,b⟩:=M n H z;refine ⟨a,fun j N T R=>?_⟩;obtain ⟨m,O,V⟩:=sw j N T R;exact b m O V
end
end Go.Proofs.YtffhjmepfojhnaaGreat
