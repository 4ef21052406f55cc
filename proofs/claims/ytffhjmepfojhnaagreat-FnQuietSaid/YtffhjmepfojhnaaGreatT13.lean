/-
  The program's Resting, Called, on hands that are kept whole; no condition.
-/
import Derived.Test.YtffhjmepfojhnaaGreatT09
import Derived.Test.YtffhjmepfojhnaaGreatT06
import Derived.Test.YtffhjmepfojhnaaGreatT01
import Derived.Deep.AppendLies
import Derived.Test.YtffhjmepfojhnaaGreatT07
import Derived.Test.YtffhjmepfojhnaaGreatT08
import Derived.Test.YtffhjmepfojhnaaGreatT05
set_option maxRecDepth 100000
set_option maxHeartbeats 2000000
set_option linter.unusedSimpArgs false
set_option linter.unusedVariables false
namespace Go.Proofs.YtffhjmepfojhnaaGreat
open _root_.Go.Proofs.Tryz
section
open Go.RowKit
attribute [local go_sem ↓] dA dO dP dW bK
attribute [local go_sem ↓] Dz
theorem lv (x o:Int) (w:World):Calls prog 48 #[.int .i64 x,.int .i64 o] w fun r w'=>r=.returned (.agg (aB (aM x o)))∧Below w w w':=by
 go_enter func48,ntmps48
 go_wp2;refine bodyPost_ret (jY results48 rfl (aQ (aM x o) yo)) rfl ⟨rfl,zB⟩
theorem Gv (k e:Int) (w:World):Calls prog 104 #[.agg #[.int .i64 k,.int .i64 e]] w fun r w'=>r=.returned (.int .i64 (if k == 1 then 1 else 9))∧Below w w w':=by
 go_enter func104,ntmps104
 go_wp2
 all_goals go_ret
 all_goals exact ⟨ry (by simp_all),zB⟩
theorem PD {k e:Int} (h:eD k e=true):begun k e 0=⟨if k == 1 then 1 else 9,k,e,0,0,0,0,0,0,0,0,0,0,0⟩:=by
 have F:k=1∨k=2:=by simp [eD] at h;omega
 rcases F with rfl|rfl <;> rfl
theorem Jl (h:Ha) (k e:Int) (w:World):Calls prog 52 #[.agg (aB h),.agg #[.int .i64 k,.int .i64 e]] w fun r w'=>r=.returned (.tuple #[.agg (aB (called h k e).1),.int .i64 (called h k e).2])∧Below w w w':=by
 by_cases N:aU h=true
 ·by_cases h1:h.pos=0
  ·by_cases h2:eD k e=true
   ·rw [show called h k e=(begun k e 0,0) by simp [called,N,h1,h2]]
    rw [PD h2];have X:=Gv k e;generalize (if k == 1 then (1:Int) else 9)=m at *;have n1:(h.pos != 0)=false:=by simp [h1]
    clear h1;go_enter func52,ntmps52;go_wp2_with fail;refine aK w zB fun I=>?_;refine (jN h _).mono ?_;rintro _ U ⟨rfl,F⟩;obtain ⟨K,H,G⟩:=sG I F (b:=w);(try simp at H);(try simp [go_sem] at G);replace M:=pq G;clear G F I
    rw [N];go_wp2_with fail;refine aK w zB fun I=>?_;refine (vU k e _).mono ?_;rintro _ Y ⟨rfl,J⟩;obtain ⟨R,L,G⟩:=sG I J (b:=w);(try simp at L);(first|simp [go_sem,M] at G|simp [go_sem] at G|skip);replace M:=pq G;clear G J I
    rw [h2];go_wp2_with fail
    go_region_held3 (fun w'=>w'.cell? ⟨w+1,0,none⟩=some (.int .i64 k)∧w'.cell? ⟨w+1,1,none⟩=some (.int .i64 e))
     (first|(simp [*,go_sem]))
     (first|(go_at_call 104;refine aK w zB fun I=>?_;refine (X _).mono ?_;rintro _ Z ⟨rfl,O⟩;obtain ⟨V,T,G⟩:=sG I O (b:=w);(try simp at T);(first|simp [go_sem,M] at G|simp [go_sem] at G|skip);replace M:=pq G;clear G O I))
    go_wp2;exact bodyPost_ret (jZ results52 rfl (aQ ⟨m,k,e,0,0,0,0,0,0,0,0,0,0,0⟩ tZ)) rfl ⟨rfl,zB⟩
   ·have h2':eD k e=false:=by simpa using h2
    rw [show called h k e=(h,2) by simp [called,N,h1,h2']]
    have n1:(h.pos != 0)=false:=by simp [h1]
    clear h1 h2;go_enter func52,ntmps52;go_wp2_with fail;refine aK w zB fun I=>?_;refine (jN h _).mono ?_;rintro _ U ⟨rfl,F⟩;obtain ⟨K,H,G⟩:=sG I F (b:=w);(try simp at H);(try simp [go_sem] at G);replace M:=pq G;clear G F I
    rw [N];go_wp2_with fail;refine aK w zB fun I=>?_;refine (vU k e _).mono ?_;rintro _ Y ⟨rfl,J⟩;obtain ⟨R,L,G⟩:=sG I J (b:=w);(try simp at L);(first|simp [go_sem,M] at G|simp [go_sem] at G|skip);replace M:=pq G;clear G J I
    rw [h2'];go_wp2;exact bodyPost_ret (jZ results52 rfl (aQ h tY)) rfl ⟨rfl,zB⟩
  ·rw [show called h k e=(h,1) by simp [called,N,h1]]
   have n1:(h.pos != 0)=true:=by simpa using h1
   clear h1;go_enter func52,ntmps52;go_wp2_with fail;refine aK w zB fun I=>?_;refine (jN h _).mono ?_;rintro _ U ⟨rfl,F⟩;obtain ⟨K,H,G⟩:=sG I F (b:=w);(try simp at H);(try simp [go_sem] at G);replace M:=pq G;clear G F I
   rw [N];go_wp2;exact bodyPost_ret (jZ results52 rfl (aQ h tY)) rfl ⟨rfl,zB⟩
 ·have h0':aU h=false:=by simpa using N
  rw [show called h k e=(Ha.zero,3) by simp [called,h0']]
  clear N;go_enter func52,ntmps52;go_wp2_with fail;refine aK w zB fun I=>?_;refine (jN h _).mono ?_;rintro _ U ⟨rfl,F⟩;obtain ⟨K,H,G⟩:=sG I F (b:=w);(try simp at H);(try simp [go_sem] at G);replace M:=pq G;clear G F I
  rw [h0'];go_wp2;exact bodyPost_ret (jZ results52 rfl (aQ Ha.zero tY)) rfl ⟨rfl,zB⟩
end
section
open Go.RowKit
theorem UD (w:World) (x:Value) (t:TypeId):∀ j u,[x][j]?=some u→(w.alloc (.cells #[x] t)).cell? ((⟨w,0,none⟩:Addr).add j)=some u:=by
 intro j u h;have F:j<1:=(List.getElem?_eq_some_iff.1 h).1;have:j=0:=by omega
 subst this;simp [Addr.add] at h ⊢;exact h
theorem uz (F:Int) (c:C3):∀ (l:List C3) (n:Nat),kT F n (l ++ [c])=kT F n l ++ (if c.s == F then [((n+l.length:Nat):Int)] else [])
 | [],n=>by simp [kT]
 | d :: l,n=>by
  have h:=uz F c l (n+1);have e:n+1+l.length=n+(d :: l).length:=by simp;omega
  rw [e] at h;simp only [List.cons_append,kT];split <;> simp [h]
theorem rT (F:Int):∀ (l:List C3) (n:Nat),(kT F n l).length≤l.length
 | [],n=>by simp [kT]
 | d :: l,n=>by
  have h:=rT F l (n+1);simp only [kT];split <;> simp <;> omega
def qh (cells:List C3) (st:Int) (k:Nat):List Int:=kT st 0 (cells.take k)
theorem Jm (cells:List C3) (F:Int):qh cells F 0=[]:=by simp [qh,kT]
theorem Ay {cells:List C3} {F:Int} {k:Nat} {c:C3} (G:k<cells.length) (hc:cells.getD k ⟨0,0,0⟩=c) (h:(c.s == F)=true):qh cells F (k+1)=qh cells F k ++ [(k:Int)]:=by
 unfold qh;rw [rz cells k G,hc,uz,if_pos h,List.length_take_of_le tO];simp
theorem DT {cells:List C3} {F:Int} {k:Nat} {c:C3} (G:k<cells.length) (hc:cells.getD k ⟨0,0,0⟩=c) (h:(c.s == F)=false):qh cells F (k+1)=qh cells F k:=by
 unfold qh;rw [rz cells k G,hc,uz,h];simp
theorem Gw (c:Ch) (F:Int):qh c.cells F c.cells=BK c F:=by simp [qh,BK]
theorem Az (cells:List C3) (F:Int) (k:Nat):(qh cells F k).length≤k:=by
 have h:=rT F (cells.take k) 0;have:=List.length_take_le k cells;unfold qh;omega
theorem PE (c:Ch) (J:Int) (a b:Option Addr) (p q:Nat) (w:World) (h1:gG w w a c.cells) (hm:c.cells.length≤1099511627776) :
  Calls prog 113 #[.agg #[c.cap,c.sent,c.got,c.fin,.slice a c.cells p,.slice b c.words q],.int .i64 J] w fun r w'=>(∃ v,r=.returned v∧aI w' w v (BK c J))∧Below w w w':=by
 obtain ⟨i0,T,X,Y,Z⟩:=info_parts pR;have HE:=aA (Gw c J);obtain ⟨cap,sent,got,fin,cells,words⟩:=c;simp only at *;have H1:=aA h1;clear h1;go_enter func113,ntmps113;go_wp2;go_loopw [5,6] (fun v i wr=>∃ k:Nat,k≤cells.length∧i=.int .i64 k∧aI wr (w+1) v (qh cells J k)∧wr.cell? ⟨w,4,none⟩=some (.slice a cells.length p)∧w<wr.heap.size∧Below w w wr) (fun _ i _=>cells.length - (intOf i).toNat)
 case atStart=>exact ⟨0,Nat.zero_le _,rfl,by rw [Jm];exact iQ _ _ _ _ _ cK cK,by simp,by (simp;try omega),zB⟩
 case round =>
  obtain ⟨k,hk,rfl,F,x4,L,O⟩:=hrel;by_cases H:k<cells.length
  ·obtain h0|⟨bb,bo,rfl,hb,hc⟩:=H1.out
   ·omega
   have c0:=(O.cell (p:=⟨bb,bo+k*3+0,none⟩) hb).trans (hc k 0 H tO);simp only [jy,C3.val,Nat.add_zero] at c0;clear hc;generalize K:cells.getD k ⟨0,0,0⟩=c at c0;have HC:=aA K;clear K;have a2:=Az cells J k;have a0:(0:Int)≤(k:Int):=tO;have a1:(k:Int)<(cells.length:Int):=tO;go_wp2_with (at_builtin;refine wpList_append_own _ rfl _ _ 29 rfl (w.heap.size+1) 2 i0 _ 1 8 underlying29 T X Y Z rfl cB _ _ _ rfl (F.alloc _) ⟨wr,0,none⟩ 1 1 [.int .i64 k] rfl rfl (UD _ _ _) CF ?c3 ?c4 ?c5 ?_)
   case c3=>unfold maxLen;omega
   case c4=>omega
   case c5=>simp;omega
   ·intro v4 w4 G N _
    have M:=own_ne F (b:=w) tO;have V:w4.cell? ⟨w,4,none⟩=some (.slice (some ⟨bb,bo,none⟩) cells.length p) :=
     (World.cell?_of_block (N.block w dQ (fun e=>M e.symm))).trans (kQ x4)
    have U:=N.size;simp at U;have R:Below w w w4:=mO zB N dQ (fun q hq=>by have:=(F.lt q hq).1;omega);have ht:(c.s == J)=true:=by assumption
    have I:aI w4 (w+1) v4 (qh cells J (k+1)):=by
     rw [Ay H HC.out ht];exact aI.snoc G
    clear G N M x4 F;go_wp2;go_roundw
    case rel=>exact ⟨k+1,by omega,by go_num,I,V,by omega,R⟩
    case measure=>simp [intOf];omega
   ·go_roundw
    case rel=>exact ⟨k+1,by omega,by go_num,by rw [DT H HC.out ‹_›];exact F,x4,L,O⟩
    case measure=>simp [intOf];omega
  ·have:k=cells.length:=by omega
   subst this;go_wp2;go_ret;exact ⟨⟨_,rfl,aL (HE.out ▸ F) tO⟩,O⟩
theorem wu (F:Int):∀ (l:List C3) (n:Nat) (x:Int),x ∈ kT F n l→∃ k:Nat,x=(k:Int)∧n≤k∧k<n+l.length
 | [],n,x,h=>by simp [kT] at h
 | d :: l,n,x,h=>by
  simp only [kT] at h;have hr:x ∈ kT F (n+1) l→∃ k:Nat,x=(k:Int)∧n≤k∧k<n+(d :: l).length:=fun h=>by
   obtain ⟨k,h1,h2,h3⟩:=wu F l (n+1) x h;exact ⟨k,h1,by omega,by simp;omega⟩
  split at h
  ·rcases List.mem_cons.1 h with rfl|h
   ·exact ⟨n,rfl,Nat.le_refl _,by simp⟩
   ·exact hr h
  ·exact hr h
def elemOf (cells:List C3) (i:Int):Int:=(cells.getD i.toNat ⟨0,0,0⟩).e
def pF (cells:List C3) (l:List Int) (k:Nat):List Int:=(l.take k).map (elemOf cells)
theorem Gx {cells:List C3} {l:List Int} {k:Nat} {x:Int} (F:k<l.length) (G:l.getD k 0=x):pF cells l (k+1)=pF cells l k ++ [elemOf cells x]:=by
 unfold pF;have e:l.take (k+1)=l.take k ++ [x]:=by
  rw [List.take_succ_eq_append_getElem F,← G];simp [List.getD,List.getElem?_eq_getElem F]
 rw [e,List.map_append];rfl
theorem Jn (cells:List C3) (l:List Int) (k:Nat):(pF cells l k).length≤k:=by
 have:=List.length_take_le k l;simp [pF];omega
theorem Jo {c:Ch} (h:aN c=true):pF c.cells (BK c 2) (BK c 2).length=keptIn c:=by
 unfold pF keptIn;rw [List.take_length,h];rfl
theorem Gy (c:Ch) (a b:Option Addr) (p q:Nat) (w:World) (h1:gG w w a c.cells) (h2:gI w w b c.words) (hm:c.cells.length≤1099511627776) :
  Calls prog 61 #[.agg #[c.cap,c.sent,c.got,c.fin,.slice a c.cells p,.slice b c.words q]] w fun r w'=>(∃ v,r=.returned v∧aI w' w v (keptIn c))∧Below w w w':=by
 obtain ⟨i0,ac,af,ag,ah⟩:=info_parts pR;have H1:=aA h1;have H2:=aA h2;clear h1 h2;by_cases hc:aN c=true
 ·have HV:=aA (Jo hc)
  have HL:Hid (∀ x ∈ BK c 2,∃ k:Nat,x=(k:Int)∧k<c.cells.length):=fun x hx=>by
   obtain ⟨k,h1,_,h3⟩:=wu 2 c.cells 0 x hx;exact ⟨k,h1,by omega⟩
  have av:(BK c 2).length≤c.cells.length:=by have:=rT 2 c.cells 0;unfold BK;omega
  go_enter func61,ntmps61
  go_wp2_with fail;refine (nW c a b p q _ (((H1.out).below zB).more qw) (((H2.out).below zB).more qw)).mono ?_
  rintro _ w1 ⟨rfl,J⟩;have a3:Below w w w1:=bT zB J;have ad:=J.size;simp at ad;have:=fun o=>J.cell (p:=⟨w,o,none⟩) qw
  have H:aI w1 (w+1) (.slice (some ⟨w+1,0,none⟩) 0 0) []:=own_below (iQ _ _ _ _ _ cK cK) J;go_wp2_with fail;refine (PE c 2 a b p q _ (((H1.out).below a3).more tO) hm).mono ?_;rintro _ w2 ⟨⟨v2,rfl,I⟩,L⟩;have a4:Below w w w2:=bT zB L;have aw:=L.size;have U:w2.cell? ⟨w,4,none⟩=some (.slice a c.cells p):=(L.cell dQ).trans qp;have M:=own_below H L;have Y:∀ g,(Value.slice (some ⟨w+1,0,none⟩) 0 0).ownBlock=some g→v2.ownBlock≠some g:=fun g hg he=>by
   simp [Value.ownBlock] at hg;subst hg;have:=(I.lt _ he).1;omega
  obtain ⟨la,lc,rfl,_⟩:=aI.seg I;generalize X:BK c 2=l at *;have HA:=aA X;clear X H J L;go_wp2_with fail;go_loopw [3,5] (fun v i wr=>∃ k:Nat,k≤l.length∧i=.int .i64 k∧aI wr (w+1) v (pF c.cells l k)∧(∀ g,v.ownBlock=some g→(Value.slice la l.length lc).ownBlock≠some g)∧aI wr w1 (.slice la l.length lc) l∧wr.cell? ⟨w,4,none⟩=some (.slice a c.cells p)∧w<wr.heap.size∧Below w w wr) (fun _ i _=>l.length - (intOf i).toNat)
  case atStart=>exact ⟨0,Nat.zero_le _,rfl,(show pF c.cells l 0=[] from rfl) ▸ M,Y,I,U,by omega,a4⟩
  case round =>
   clear M Y I U a4;obtain ⟨k,hk,rfl,G,a7,T,x4,ak,hB⟩:=hrel;by_cases O:k<l.length
   ·obtain ⟨i,V,hi⟩:=HL.out (l.getD k 0) (by rw [List.getD,List.getElem?_eq_getElem O];exact List.getElem_mem O)
    have ab:∃ g,la=some ⟨g,0,none⟩∧wr.cell? ⟨g,k,none⟩=some (.int .i64 (l.getD k 0)):=by
     rcases T.2 with ⟨h0,an⟩|⟨g,cap,am,h0,_⟩
     ·omega
     ·simp at h0
      refine ⟨g,h0.1,?_⟩;have:=T.cells (g:=g) (by rw [h0.1];rfl) k (.int .i64 (l.getD k 0)) (by simp [ints,List.getD,List.getElem?_eq_getElem O]);rw [← this];congr 1;by_cases e:k=0 <;> simp [Addr.add,e]
    obtain ⟨g,rfl,cl⟩:=ab;obtain h0|⟨Z,bo,rfl,hb,a5⟩:=H1.out
    ·omega
    have c1:=(hB.cell (p:=⟨Z,bo+i*3+1,none⟩) hb).trans (a5 i 1 hi tO);simp only [jy,C3.val] at c1;clear a5;have he:elemOf c.cells (l.getD k 0)=(c.cells.getD i ⟨0,0,0⟩).e:=by rw [V];simp [elemOf]
    have a2:=aA he;generalize (c.cells.getD i ⟨0,0,0⟩).e=ev at c1 a2;clear he;have HX:=aA V;rw [V] at cl;clear V;have au:=Jn c.cells l k;have aq:(0:Int)≤(k:Int):=tO;have ar:(k:Int)<(l.length:Int):=tO;have ai:(0:Int)≤(i:Int):=tO;have aj:(i:Int)<(c.cells.length:Int):=tO;go_wp2_with fail;have ap:g<wr.heap.size:=World.block_lt_of_cell? _ _ cl;have ao:Z<wr.heap.size:=tO;have a0:some w.heap.size≠u3.ownBlock:=fun e=>own_ne G (b:=w) tO e.symm
    have R:some g≠u3.ownBlock:=fun e=>a7 g e.symm rfl
    have a6:some Z≠u3.ownBlock:=fun e=>own_ne G (b:=Z) tO e.symm
    go_region_held3 (fun w'=>w'.cell? ⟨w,4,none⟩=some (.slice (some ⟨Z,bo,none⟩) c.cells p)∧w'.cell? ⟨g,k,none⟩=some (.int .i64 i)∧w'.cell? ⟨Z,bo+i*3+1,none⟩=some (.int .i64 ev))
     (first
      | (simp [*,go_sem])
      | (refine ⟨World.grownBy.cell F qp a0,World.grownBy.cell F qp R,World.grownBy.cell F qp a6⟩))
     (first|(refine step_append_lies _ ja _ _ _ ja (w+1) 2 i0 _ 1 8 underlying29 ac af ag ah rfl tO u3 _ _ ja (World.ownsRow.drew (G.alloc _)) ⟨wr,0,none⟩ 1 1 [.int .i64 ev] ja ja (World.news_of_block (cs:=#[.int .i64 ev]) (t:=2) (fr:=(0,0)) (heap_alloc_new wr _)) CF tO zM tO dQ (wr+1) cK ?_;intro gg cap w4 N F K al))
    have U:w4.cell? ⟨w,4,none⟩=some (.slice (some ⟨Z,bo,none⟩) c.cells p):=World.grownBy.cell F qp a0;have ae:=F.size;simp at ae;have a9:Below w w w4:=mO zB F dQ (fun q hq=>by have:=(G.lt q hq).1;omega);have a8:aI w4 w1 (.slice (some ⟨g,0,none⟩) l.length lc) l:=(World.ownsRow.drew (T.alloc _)).kept F (.inr R);have a1:aI w4 (w+1) (.slice (some ⟨gg,0,none⟩) ((pF c.cells l k).length+1) cap) (pF c.cells l (k+1)):=by
     rw [Gx O rfl,a2.out];exact aI.snoc N
    have aa:g≠gg:=by
     rcases K with K|K
     ·intro e;exact R (by rw [K,e])
     ·omega
    clear N F a0 R a6 G T a7 x4 K;go_wp2;go_roundw
    case rel=>exact ⟨k+1,by omega,by go_num,a1,fun g' e1 e2=>aa (by simp [Value.ownBlock] at e1 e2;omega),a8,U,by omega,a9⟩
    case measure=>simp [intOf];omega
   ·have:k=l.length:=by omega
    subst this;go_wp2;go_ret;exact ⟨⟨_,rfl,aL (HV.out ▸ G) tO⟩,hB⟩
 ·have HV:Hid (keptIn c=[]):=by simp [keptIn,hc,Hid]
  go_enter func61,ntmps61
  go_wp2_with fail;refine (nW c a b p q _ (((H1.out).below zB).more qw) (((H2.out).below zB).more qw)).mono ?_
  rintro _ w1 ⟨rfl,J⟩;have a3:Below w w w1:=bT zB J;have H:aI w1 w (.slice (some ⟨w+1,0,none⟩) 0 0) []:=own_below (iQ _ _ _ _ _ cK cK) J;go_wp2;go_ret;refine ⟨⟨_,rfl,?_⟩,zB⟩;rw [HV.out];exact H
end
section
inductive Ev where
 | no:Ev
 | ok (n:Nat):Ev
 | val (n:Nat):Ev
structure Nx (g g':Gh) (h h':Ha) (ev:Ev):Prop where
 el:∀ n,(g.lc n).sp≠0→g'.el n=g.el n
 ok:∀ n,(g'.lc n).sp=30↔((g.lc n).sp=30∨ev=.ok n)
 v74:∀ n,(g.lc n).rp=74→(g'.lc n).rp=74
 v74':∀ n,(g'.lc n).rp=74→(g.lc n).rp=74∨(ev=.val n∧(g.lc n).rp≠70)
 v70:∀ n,(g.lc n).rp=70→(g'.lc n).rp=70
 v70':∀ n,(g'.lc n).rp=70→(g.lc n).rp=70∨rc h'=some n
 keep:∀ n,(g.lc n).rp=70→rc h=some n→rc h'=some n∨ev=.val n
 cl:∀ n,rc h'=some n→rc h=some n∨(g.lc n).rp=0
 oke:∀ n,ev=.ok n→sc h=some n∧h'.pos=0∧h'.reply=1
 vale:∀ n,ev=.val n→rc h=some n∧rc h'=none∧h'.pos=0∧h'.reply=2∧h'.out=g'.el n∧((g'.lc n).rp=74∨(g'.lc n).rp=70)
 ok1:h'.pos=0→h'.reply=1→∃ n,ev=.ok n
 val1:h'.pos=0→h'.reply=2→∃ n,ev=.val n
 ns:∀ n,30≤(g.lc n).sp→30≤(g'.lc n).sp
theorem UJ {g:Gh} {n0:Nat} {y:Lc} {h h':Ha} (A:gJ (g.lc n0).sp) (H:y.rp=(g.lc n0).rp) (hs:sc h=some n0) (hr:rc h=none) (F:rc h'=none) (v:(y.sp≠30∧(h'.pos=0→h'.reply≠1∧h'.reply≠2))∨(y.sp=30∧h'.pos=0∧h'.reply=1)):∃ ev,Nx g (g.put n0 y) h h' ev:=by
 have R:∀ n,((g.put n0 y).lc n).rp=(g.lc n).rp:=fun n=>if e:n=n0 then (by subst e;rw [gu];exact H) else CJ
 have G:(g.lc n0).sp≠30:=by have:=A.2;omega
 have ns:∀ n,30≤(g.lc n).sp→30≤((g.put n0 y).lc n).sp:=fun n h=>if e:n=n0 then absurd h (by subst e;have:=A.2;omega) else (by rw [ji g y e];exact h)
 rcases v with ⟨v1,v2⟩|⟨v1,v2,v3⟩
 ·refine ⟨.no,fun _ _=>rfl,fun n=>?_,fun n e=>(R n).trans e,fun n e=>.inl ((R n).symm.trans e),fun n e=>(R n).trans e,fun n e=>.inl ((R n).symm.trans e),fun n _ e=>vw,fun n e=>(by rw [F] at e;cases e),fun n e=>qA,fun n e=>qA,fun p r=>absurd r (v2 p).1,fun p r=>absurd r (v2 p).2,ns⟩
  by_cases e:n=n0
  ·subst e
   rw [gu];exact ⟨fun h=>absurd h v1,fun h=>h.elim (fun h=>absurd h G) (fun h=>by cases h)⟩
  ·rw [ji g y e]
   exact ⟨.inl,fun h=>h.elim id (fun h=>by cases h)⟩
 ·refine ⟨.ok n0,fun _ _=>rfl,fun n=>?_,fun n e=>(R n).trans e,fun n e=>.inl ((R n).symm.trans e),fun n e=>(R n).trans e,fun n e=>.inl ((R n).symm.trans e),fun n _ e=>vw,fun n e=>(by rw [F] at e;cases e),fun n e=>?_,fun n e=>qA,fun _ _=>⟨n0,rfl⟩,fun _ r=>(by rw [v3] at r;cases r),ns⟩
  ·by_cases e:n=n0
   ·subst e
    rw [gu];exact ⟨fun _=>.inr rfl,fun _=>v1⟩
   ·rw [ji g y e]
    exact ⟨.inl,fun h=>h.elim id (fun h=>by cases h;exact absurd rfl e)⟩
  ·cases e
   exact ⟨hs,v2,v3⟩
theorem nL {g:Gh} {n0:Nat} {y:Lc} {h h':Ha} (A:gL (g.lc n0).rp) (M:y.sp=(g.lc n0).sp) (hr:rc h=some n0) (K:rc h'=some n0∨rc h'=none) (v:(y.rp≠70∧y.rp≠74∧(h'.pos=0→h'.reply≠1∧h'.reply≠2))∨(y.rp=70∧rc h'=some n0∧h'.pos≠0)∨(y.rp=74∧rc h'=none∧h'.pos=0∧h'.reply=2∧h'.out=g.el n0)):∃ ev,Nx g (g.put n0 y) h h' ev:=by
 have S:∀ n,((g.put n0 y).lc n).sp=(g.lc n).sp:=fun n=>if e:n=n0 then (by subst e;rw [gu];exact M) else CJ
 have L:∀ n,n≠n0→((g.put n0 y).lc n).rp=(g.lc n).rp:=fun n e=>by rw [ji g y e]
 have I:((g.put n0 y).lc n0).rp=y.rp:=by rw [gu]
 have J:(g.lc n0).rp≠70:=by have:=A.2;omega
 have N:(g.lc n0).rp≠74:=by have:=A.2;omega
 have G:∀ n,(g.lc n).rp=70→n≠n0:=fun n e F=>by subst F;exact J e
 have H:∀ n,(g.lc n).rp=74→n≠n0:=fun n e F=>by subst F;exact N e
 have cl:∀ n,rc h'=some n→rc h=some n∨(g.lc n).rp=0:=fun n e=>by
  rcases K with h|h
  ·rw [h] at e;rw [hr];exact .inl e
  ·rw [h] at e;cases e
 rcases v with ⟨v1,v2,v3⟩|⟨v1,v2,v3⟩|⟨v1,v2,v3,v4,O⟩
 ·refine ⟨.no,fun _ _=>rfl,fun n=>C8,fun n e=>(L n (H n e)).trans e,fun n e=>.inl ?_,fun n e=>(L n (G n e)).trans e,fun n e=>.inl ?_,fun n e F=>?_,cl,fun n e=>qA,fun n e=>qA,fun p r=>absurd r (v3 p).1,fun p r=>absurd r (v3 p).2,fun n h=>(by rw [S];exact h)⟩
  ·by_cases h:n=n0
   ·subst h;rw [I] at e;exact absurd e v2
   ·exact (L n h).symm.trans e
  ·by_cases h:n=n0
   ·subst h;rw [I] at e;exact absurd e v1
   ·exact (L n h).symm.trans e
  ·rw [hr] at F
   obtain rfl:=Option.some.inj F;exact absurd e J
 ·refine ⟨.no,fun _ _=>rfl,fun n=>C8,fun n e=>(L n (H n e)).trans e,fun n e=>.inl ?_,fun n e=>(L n (G n e)).trans e,fun n e=>?_,fun n e F=>?_,cl,fun n e=>qA,fun n e=>qA,fun p _=>absurd p v3,fun p _=>absurd p v3,fun n h=>(by rw [S];exact h)⟩
  ·by_cases h:n=n0
   ·subst h;rw [I,v1] at e;cases e
   ·exact (L n h).symm.trans e
  ·by_cases h:n=n0
   ·subst h;exact .inr v2
   ·exact .inl ((L n h).symm.trans e)
  ·rw [hr] at F
   obtain rfl:=Option.some.inj F;exact absurd e J
 ·refine ⟨.val n0,fun _ _=>rfl,fun n=>C8,fun n e=>(L n (H n e)).trans e,fun n e=>?_,fun n e=>(L n (G n e)).trans e,fun n e=>.inl ?_,fun n e F=>?_,cl,fun n e=>qA,fun n e=>?_,fun _ r=>(by rw [v4] at r;cases r),fun _ _=>⟨n0,rfl⟩,fun n h=>(by rw [S];exact h)⟩
  ·by_cases h:n=n0
   ·subst h;exact .inr ⟨rfl,J⟩
   ·exact .inl ((L n h).symm.trans e)
  ·by_cases h:n=n0
   ·subst h;rw [I,v1] at e;cases e
   ·exact (L n h).symm.trans e
  ·rw [hr] at F
   obtain rfl:=Option.some.inj F;exact absurd e J
  ·cases e
   exact ⟨hr,v2,v3,v4,O,.inl (by rw [I];exact v1)⟩
theorem M0 {g g':Gh} {n:Nat} {h h':Ha} (F:∀ m,(g.lc m).sp≠0→g'.el m=g.el m) (S:∀ m,(g'.lc m).sp=30↔(g.lc m).sp=30) (ns:∀ m,30≤(g.lc m).sp→30≤(g'.lc m).sp) (R:∀ m,((g'.lc m).rp=70↔(g.lc m).rp=70)∧((g'.lc m).rp=74↔(g.lc m).rp=74)) (hr:∀ m,rc h=some m→m=n) (cl:∀ m,rc h'=some m→rc h=some m∨(g.lc m).rp=0) (v:(rc h'=rc h∧h'.pos≠0)∨((∀ m,(g.lc m).rp=70→rc h≠some m)∧(h'.pos=0→h'.reply≠1∧h'.reply≠2))∨((g.lc n).rp=70∧rc h=some n∧rc h'=none∧h'.pos=0∧h'.reply=2∧h'.out=g'.el n)):∃ ev,Nx g g' h h' ev:=by
 rcases v with ⟨v1,v2⟩|⟨v1,v2⟩|⟨v1,v2,v3,v4,G,I⟩
 ·exact ⟨.no,F,fun m=>C8,fun m e=>(R m).2.2 e,fun m e=>.inl ((R m).2.1 e),fun m e=>(R m).1.2 e,fun m e=>.inl ((R m).1.1 e),fun m _ e=>.inl (by rw [v1];exact e),cl,fun m e=>qA,fun m e=>qA,fun p _=>absurd p v2,fun p _=>absurd p v2,ns⟩
 ·exact ⟨.no,F,fun m=>C8,fun m e=>(R m).2.2 e,fun m e=>.inl ((R m).2.1 e),fun m e=>(R m).1.2 e,fun m e=>.inl ((R m).1.1 e),fun m H e=>absurd e (v1 m H),cl,fun m e=>qA,fun m e=>qA,fun p r=>absurd r (v2 p).1,fun p r=>absurd r (v2 p).2,ns⟩
 ·refine ⟨.val n,F,fun m=>C8,fun m e=>(R m).2.2 e,fun m e=>.inl ((R m).2.1 e),fun m e=>(R m).1.2 e,fun m e=>.inl ((R m).1.1 e),fun m _ e=>.inr (by rw [hr m e]),cl,fun m e=>qA,fun m e=>?_,fun _ r=>(by rw [G] at r;cases r),fun _ _=>⟨n,rfl⟩,ns⟩
  cases e;exact ⟨v2,v3,v4,G,I,.inr ((R n).1.2 v1)⟩
theorem jO {g:Gh} {n0:Nat} {y:Lc} (h:y.sp=(g.lc n0).sp) (m:Nat):((g.put n0 y).lc m).sp=(g.lc m).sp:=if e:m=n0 then (by subst e;rw [gu];exact h) else CJ
theorem kL {g:Gh} {n0:Nat} {y:Lc} (h:y.rp=(g.lc n0).rp) (m:Nat):((g.put n0 y).lc m).rp=(g.lc m).rp:=if e:m=n0 then (by subst e;rw [gu];exact h) else CJ
theorem one {a b:Nat} (e:a=b):a=30↔b=30:=by rw [e]
theorem two {a b:Nat} (e:a=b):(a=70↔b=70)∧(a=74↔b=74):=by rw [e];exact ⟨Iff.rfl,Iff.rfl⟩
theorem KU {g:Gh} {h h':Ha} (hr:rc h=none) (F:rc h'=none) (v:h'.pos=0→h'.reply≠1∧h'.reply≠2):∃ ev,Nx g g h h' ev :=
 M0 (n:=0) (fun _ _=>rfl) (fun _=>Iff.rfl) (fun _ h=>h) (fun _=>⟨Iff.rfl,Iff.rfl⟩) (fun m e=>vw) (fun m e=>(by rw [F] at e;cases e)) (.inr (.inl ⟨fun m _ e=>vw,v⟩))
theorem PG {g:Gh} {n0:Nat} {h h':Ha} {w:Int} (z:(g.lc n0).sp=0) (hr:rc h=none) (F:rc h'=none) (p:h'.pos≠0):∃ ev,Nx g { g.put n0 { g.lc n0 with sp:=2 } with el:=fun m=>if m=n0 then w else g.el m } h h' ev :=
 M0 (n:=0) (fun m G=>if_neg (fun e=>G (by subst e;exact z))) (fun m=>if e:m=n0 then (by subst e;show ((g.put m _).lc m).sp=30↔_;rw [gu,z];show (2:Nat)=30↔(0:Nat)=30;omega) else (by show ((g.put n0 _).lc m).sp=30↔_;rw [ji g _ e])) (fun m h=>if e:m=n0 then absurd h (by subst e;rw [z];omega) else (by show 30≤((g.put n0 _).lc m).sp;rw [ji g _ e];exact h)) (fun m=>two (kL ja m)) (fun m e=>vw) (fun m e=>(by rw [F] at e;cases e)) (.inr (.inl ⟨fun m _ e=>vw,fun hp=>absurd hp p⟩))
theorem PH {g:Gh} {n0:Nat} {h h':Ha} {w:Int} (z:(g.lc n0).sp=16) (hr:rc h=none) (F:rc h'=none) (p:h'.pos≠0):∃ ev,Nx g { g.put n0 { g.lc n0 with s:=3,wt:=1,sp:=23,sw:=0 } with sid:=fun m=>if m=n0 then w else g.sid m } h h' ev :=
 M0 (n:=0) (fun m G=>rfl) (fun m=>if e:m=n0 then (by subst e;show ((g.put m _).lc m).sp=30↔_;rw [gu,z];show (23:Nat)=30↔(16:Nat)=30;omega) else (by show ((g.put n0 _).lc m).sp=30↔_;rw [ji g _ e])) (fun m h=>if e:m=n0 then absurd h (by subst e;rw [z];omega) else (by show 30≤((g.put n0 _).lc m).sp;rw [ji g _ e];exact h)) (fun m=>two (kL ja m)) (fun m e=>vw) (fun m e=>(by rw [F] at e;cases e)) (.inr (.inl ⟨fun m _ e=>vw,fun hp=>absurd hp p⟩))
theorem PI {g:Gh} {n0:Nat} {h h':Ha} (z:(g.lc n0).rp=0) (hr:rc h=none) (F:rc h'=some n0) (p:h'.pos≠0):∃ ev,Nx g (g.put n0 { g.lc n0 with rp:=10 }) h h' ev :=
 M0 (n:=0) (fun m G=>rfl) (fun m=>one (jO ja m)) (fun m h=>Nat.le_trans h (Nat.le_of_eq (jO ja m).symm)) (fun m=>if e:m=n0 then (by subst e;rw [gu,z];exact ⟨by show (10:Nat)=70↔(0:Nat)=70;omega,by show (10:Nat)=74↔(0:Nat)=74;omega⟩) else (by rw [ji g _ e];exact ⟨Iff.rfl,Iff.rfl⟩)) (fun m e=>vw) (fun m e=>(by rw [F] at e;obtain rfl:=Option.some.inj e;exact .inr z)) (.inr (.inl ⟨fun m _ e=>vw,fun hp=>absurd hp p⟩))
theorem Gz {g:Gh} {n0:Nat} {h h':Ha} {w:Int} (z:(g.lc n0).rp=12∨(g.lc n0).rp=32) (hr:rc h=some n0) (F:rc h'=some n0) (p:h'.pos≠0):∃ ev,Nx g { g.put n0 { g.lc n0 with s:=4,wt:=2,rp:=23,rw:=0 } with rid:=fun m=>if m=n0 then w else g.rid m } h h' ev :=
 M0 (n:=n0) (fun m G=>rfl) (fun m=>one (jO ja m)) (fun m h=>Nat.le_trans h (Nat.le_of_eq (jO ja m).symm)) (fun m=>by
  show ((((g.put n0 _).lc m).rp=70↔_)∧(((g.put n0 _).lc m).rp=74↔_));by_cases e:m=n0
  ·subst e
   rw [gu];show ((23:Nat)=70↔_)∧((23:Nat)=74↔_);omega
  ·rw [ji g _ e];exact ⟨Iff.rfl,Iff.rfl⟩) (fun m e=>by rw [hr] at e;exact (Option.some.inj e).symm) (fun m e=>(by rw [F] at e;rw [hr];exact .inl e)) (.inr (.inl ⟨fun m G e=>by
   rw [hr] at e;obtain rfl:=Option.some.inj e
   omega,fun hp=>absurd hp p⟩))
theorem oK {g g':Gh} {n:Nat} {h h':Ha} (k:h.code=2) (b:Gp g h n) (p:16≤h.pos) (I:g'.el=g.el) (S:∀ m,(g'.lc m).sp=(g.lc m).sp) (R:∀ m,(g'.lc m).rp=(g.lc m).rp) (v:(h'.code=2∧16≤h'.pos∧h'.cell=(n:Int))∨(∃ F:Ha,F.code=2∧Gp g F n∧h'=bF F)):∃ ev,Nx g g' h h' ev:=by
 have H:rc h=some n:=rc_at k tO b.2.1;refine M0 (n:=n) (fun m _=>by rw [I]) (fun m=>by rw [S]) (fun m h=>by rw [S];exact h) (fun m=>by rw [R];exact ⟨Iff.rfl,Iff.rfl⟩) (fun m e=>by rw [H] at e;exact (Option.some.inj e).symm) ?_ ?_
 ·intro m e
  rw [H];rcases v with ⟨a,c,d⟩|⟨F,kd,bd,rfl⟩
  ·rw [rc_at a tO d] at e;exact .inl e
  ·rcases bd with ⟨_,J,G|G|G⟩
   ·rw [show bF F=aM 2 F.out by simp [bF,G.1],iO mq] at e;cases e
   ·rw [show bF F={ F with pos:=23 } by simp [bF,G.1],rc_at (h:={ F with pos:=23 }) kd (by show (10:Int)≤23;omega) J] at e;exact .inl e
   ·rw [show bF F=anew F by simp [bF,G.1],iO (by simp [anew,begun,kd])] at e;cases e
 rcases v with ⟨a,c,d⟩|⟨F,kd,bd,rfl⟩
 ·exact .inl ⟨by rw [H,rc_at a tO d],by omega⟩
 ·rcases bd with ⟨_,J,G|G|G⟩
  ·have e:bF F=aM 2 F.out:=by simp [bF,G.1]
   exact .inr (.inr ⟨G.2.1,H,by rw [e];exact iO mq,by rw [e];rfl,by rw [e];rfl,by rw [e,I];exact G.2.2⟩)
  ·have e:bF F={ F with pos:=23 }:=by simp [bF,G.1]
   exact .inl ⟨by rw [H,e];exact rc_at (h:={ F with pos:=23 }) kd (by show (10:Int)≤23;omega) J,by rw [e];show (23:Int)≠0;omega⟩
  ·have e:bF F=anew F:=by simp [bF,G.1]
   refine .inr (.inl ⟨fun m L K=>?_,fun hp=>?_⟩)
   ·rw [H] at K
    obtain rfl:=Option.some.inj K;omega
   ·rw [e] at hp
    simp [anew,begun,kd] at hp
theorem zS {c:Ch} {hs:List Ha} {g:Gh} {n0:Nat} (q:Q c hs g) (F:n0<40) (G:c.sent=(n0:Int)):(g.lc n0).sp=0:=by
 have:=q.cS n0 F;by_cases e:(g.lc n0).sp=0
 ·exact e
 ·have:=this.1 e;omega
theorem zR {c:Ch} {hs:List Ha} {g:Gh} {n0:Nat} (q:Q c hs g) (F:n0<40) (G:c.got=(n0:Int)):(g.lc n0).rp=0:=by
 have:=q.cR n0 F;by_cases e:(g.lc n0).rp=0
 ·exact e
 ·have:=this.1 e;omega
def vh (h:Ha):Nat:=if h.pos=0 then 0 else if h.pos=16 then 2 else 1
def PL (g:Gh):Nat:=jl (fun n=>rk (g.lc n)) 40
def xP (g g':Gh) (h h':Ha):Prop:=2*PL g'+vh h'<2*PL g+vh h
theorem bI {g g':Gh} {n0:Nat} {y:Lc} {h h':Ha} (H:n0<40) (r:rk y<rk (g.lc n0)) (p:h.pos≠0) (e:g'.lc=(g.put n0 y).lc):xP g g' h h':=by
 have:=oM (f:=fun m=>rk (g.lc m)) (f':=fun m=>rk (g'.lc m)) H (fun m _ F=>by
  show rk (g'.lc m)=rk (g.lc m)
  rw [e,ji g y F])
 have G:g'.lc n0=y:=by rw [e,gu]
 simp only [G] at this;have v1:1≤vh h:=by unfold vh;rw [if_neg p];split <;> omega
 have v2:vh h'≤2:=by unfold vh;split <;> (try split) <;> omega
 unfold xP PL;omega
theorem Dk {g:Gh} {h h':Ha} (p:h.pos≠0) (e:h'.pos=0):xP g g h h':=by
 have v1:1≤vh h:=by unfold vh;rw [if_neg p];split <;> omega
 have v2:vh h'=0:=by unfold vh;rw [if_pos e]
 unfold xP;omega
theorem M3 {g:Gh} {h:Ha} (p:h.pos=16):xP g g h (bF h):=by
 have v1:vh h=2:=by unfold vh;rw [if_neg tO,if_pos p]
 have q:(bF h).pos≠16:=by
  unfold bF;split
  ·show (0:Int)≠16;omega
  ·split
   ·show (23:Int)≠16;omega
   ·show (if h.code == 2 then (9:Int) else 1)≠16
    split <;> omega
 have v2:vh (bF h)≤1:=by unfold vh;split <;> (try split) <;> omega
 unfold xP;omega
end
section
theorem In.f_look {x:Lc} (h:In x) (F:x.sp=3):x.s=0∨x.s=1∨x.s=4∨x.s=8∨x.s=10:=by
 have:=h.imp (fun x=>Nat.beq x.sp 3) (fun x=>Nat.beq x.s 0 || (Nat.beq x.s 1 || (Nat.beq x.s 4 || (Nat.beq x.s 8 || Nat.beq x.s 10)))) bH gN;exact mM
theorem In.f_s4 {x:Lc} (h:In x) (F:x.s=4):x.wt=2∧x.rw≠3:=by
 have:=h.imp (fun x=>Nat.beq x.s 4) (fun x=>Nat.beq x.wt 2 && !(Nat.beq x.rw 3)) bH gN;exact mM
theorem In.f_s3 {x:Lc} (h:In x) (F:x.s=3):x.wt=1∧x.sw≠3:=by
 have:=h.imp (fun x=>Nat.beq x.s 3) (fun x=>Nat.beq x.wt 1 && !(Nat.beq x.sw 3)) bH gN;exact mM
theorem In.f_c {x:Lc} (h:In x) (F:x.sp=7):x.rw≠3:=by
 have:=h.imp (fun x=>Nat.beq x.sp 7) (fun x=>!(Nat.beq x.rw 3)) bH gN;exact mM
theorem bY {a c':Ch} {b h':Ha} (e:done a b=(c',h',true)):c'=a∧h'=b∧aN a=true∧aU b=true:=by
 unfold done at e;split at e
 ·rename_i F
  simp only [Prod.mk.injEq,and_true] at e;simp only [Bool.and_eq_true] at F;exact ⟨e.1.symm,e.2.symm,F⟩
 ·cases e
theorem pG {c':Ch} {h':Ha} (e:nothing=(c',h',true)):False:=by cases e
theorem Dl {c:Ch} (hc:aN c=true) {n:Nat} (G:n<40):kN (aY c n).s (aY c n).e (aY c n).t=true∧c.cells.length=40∧c.words.length≤80:=by
 simp only [aN,fH,Bool.and_eq_true,decide_eq_true_eq] at hc;obtain ⟨⟨_,_,_,_,h1,h2⟩,h3,_⟩:=hc;refine ⟨?_,h1,h2⟩;have F:n<c.cells.length:=tO;have:=List.all_eq_true.1 h3 _ (List.getElem_mem F);have e:aY c n=c.cells[n]:=by unfold aY;rw [List.getD_eq_getElem?_getD,List.getElem?_eq_getElem F];rfl
 rw [e];simp only [fw,Bool.and_eq_true] at this;exact this.1
theorem mV {c:Ch} (hc:aN c=true) {n:Nat} (F:n<40) (f t v:Int) (ht:0≤t∧t≤10) (G:0≤v∧v≤80):bB c (n:Int) f t v=((aY c n).s == f):=by
 obtain ⟨h1,_,_⟩:=Dl hc F;unfold bB vW kP;rw [gQ rfl,h1];have h2:kN t (aY c n).e v=true:=by
  simp only [kN,Bool.and_eq_true,dK] at h1 ⊢;omega
 rw [h2];simp
theorem l7 {c:Ch} {n:Nat} {f t v:Int} (h:bB c (n:Int) f t v=true):bU c (n:Int) f t v=setAt c (n:Int) ⟨t,(aY c n).e,v⟩:=by
 unfold bB vW at h;unfold bU mF oF wV;rw [h,gQ rfl];rfl
theorem ku {c:Ch} {i f t v:Int} (h:bB c i f t v=false):bU c i f t v=c:=by
 have e:mF (cellAt c i) f t v=cellAt c i:=by
  have h2:kP (cellAt c i).s (cellAt c i).e (cellAt c i).t f t v=false:=h;simp [mF,oF,wV,h2]
 unfold bU setAt;rw [e];unfold cellAt;have:c.cells.set i.toNat (c.cells.getD i.toNat ⟨0,0,0⟩)=c.cells:=by
  apply List.ext_getElem?;intro n;rw [List.getElem?_set];by_cases G:i.toNat=n
  ·subst G
   by_cases F:i.toNat<c.cells.length
   ·simp [F]
   ·simp [F]
  ·simp [G]
 rw [this]
theorem DU {f:Nat→Nat} {b n:Nat} (h:∀ m,m<n→f m≤b):jl f n≤b*n:=by
 induction n with
 | zero=>simp [jl]
 | succ n ih =>
  have h1:=ih (fun m F=>h m tO);have h2:=h n tO;simp only [jl,Nat.mul_succ];omega
theorem Q.room {c:Ch} {hs:List Ha} {g:Gh} {n0:Nat} (q:Q c hs g) (G:n0<40) (h:(g.lc n0).sw=3∨(g.lc n0).rw=3):c.words.length<80:=by
 rw [q.wc];have h1:=oM (f:=fun m=>wC (g.lc m)) (f':=fun m=>if m=n0 then 2 else wC (g.lc m)) G (fun m _ F=>if_neg F);have h2:jl (fun m=>if m=n0 then 2 else wC (g.lc m)) 40≤2*40:=DU fun m _=>by
  show (if m=n0 then 2 else wC (g.lc m))≤2;unfold wC;split
  ·omega
  ·split <;> split <;> omega
 have h3:wC (g.lc n0)≤1:=by
  unfold wC;rcases h with h|h
  ·rw [if_pos h];split <;> omega
  ·rw [if_pos h];split <;> omega
 simp only [if_pos] at h1;omega
theorem xn {c:Ch} {w:Int} {n v:Nat} (h1:1≤w) (h2:w≤c.words.length) (h3:dH c w=(v:Int)) (m:Int) (F:1≤m∧m≤2):eG c w m=(v == 0):=by
 unfold eG;have a:jR c w=true:=by simp [jR,dV];omega
 have b:dV m 1 2=true:=by simp [dV];omega
 rw [a,b,h3];cases v with
 | zero=>rfl
 | succ v=>simp <;> omega
theorem uC {c:Ch} {w m:Int} (h:eG c w m=false):cZ c w m=c:=by simp [cZ,h]
theorem Q.send {c c':Ch} {hs:List Ha} {g:Gh} {i:Nat} {h':Ha} (q:Q c hs g) (H:i<hs.length) (hc:aN c=true) (N:aU (aD hs i)=true) (k1:(aD hs i).code=1) (p1:(aD hs i).pos≤8) (e:bE c (aD hs i)=(c',h',true)):∃ g',Q c' (hs.set i h') g'∧(∃ ev,Nx g g' (aD hs i) h' ev)∧xP g g' (aD hs i) h':=by
 have hok:(aD hs i).pos≠0→bC c (aD hs i) 1 8 1=true:=fun hp=>by
  have:dV (aD hs i).pos 1 8=true:=by
   simp only [aU,oG,Bool.and_eq_true,dK] at N;simp only [dK];omega
  simp [bC,hc,N,this,k1]
 have O:∀ n,n<40→n<c.cells.length:=fun n F=>by rw [q.len];exact F
 cases q.hand i H with
 | rest p =>
  have:bC c (aD hs i) 1 8 1=false:=by
   have:dV (aD hs i).pos 1 8=false:=by simp [dV,p]
   simp [bC,this]
  simp [bE,this] at e;exact absurd e (by intro e;cases e)
 | s0 k p =>
  simp only [bE,hok tO,p,if_true] at e;simp only [vC] at e;have hr:0≤c.sent∧c.sent≤40:=by
   simp only [aN,fH,Bool.and_eq_true,dK] at hc;omega
  by_cases M:c.sent=40
  ·simp [M] at e
   obtain ⟨rfl,rfl,_⟩:=bY e;exact ⟨g,q.idle H (.rest rfl) (mU tO) (jr k) tO (mU mq) (iO mq) mq,KU (jr k) (by unfold rc;simp [aM]) mq,Dk tO rfl⟩
  ·simp [M] at e
   obtain ⟨rfl,rfl,_⟩:=bY e;obtain ⟨m,K⟩:∃ m:Nat,c.sent=(m:Int):=⟨c.sent.toNat,by omega⟩;exact ⟨_,q.takeS H tO K k p k rfl K,PG (zS q tO K) (jr k) (jr k) cK,bI (n0:=m) tO ((q.way m tO).s_take_k (zS q tO K)) tO rfl⟩
 | sL n F k ce el p z =>
  simp only [bE,hok tO,p] at e;simp only [KM] at e;obtain ⟨rfl,rfl,_⟩:=bY e;obtain ⟨X,_,_⟩:=Dl hc F;have K:dV (aD hs i).elem 0 999=true:=by
   simp only [aU,oG,Bool.and_eq_true,dK] at N;simp [k,p,eD] at N;exact N.1
  have R:zi c (aD hs i).cell (aD hs i).elem=setAt c (n:Int) ⟨(aY c n).s,(aD hs i).elem,(aY c n).t⟩:=by
   unfold zi;rw [ce,gQ rfl];have:nS (aY c n).s (aY c n).e (aY c n).t (aD hs i).elem=(aD hs i).elem:=by unfold nS;rw [X,K];rfl
   rw [this]
  rw [R];have Z:In { g.lc n with sp:=3 }:=(q.way n F).s_lay z
  have cl:=q.cell n F;have Y:aY (setAt c (n:Int) ⟨(aY c n).s,(aD hs i).elem,(aY c n).t⟩) n=⟨(aY c n).s,(aD hs i).elem,(aY c n).t⟩:=by rw [nA _ (O n F),if_pos rfl]
  refine ⟨_,q.moveS H F Z k tO tO ce (by rw [z];unfold gJ;omega) (by show (3:Nat)≠0;omega) rfl rfl (xk _ (O n F)) ⟨?_,?_,?_,?_⟩ (mh q.word rfl F rfl rfl) Iff.rfl Iff.rfl (.sK n F k ce el rfl il) (.inl ⟨k,by show (2:Int)≤3;omega,by show (3:Int)≠16;omega,ce⟩),UJ (by rw [z];unfold gJ;omega) rfl (sc_at k tO ce) (jr k) VX (.inl ⟨by simp,by simp⟩),bI F ((q.way n F).s_lay_k z) tO rfl⟩ <;> rw [gu,Y]
  ·exact cl.s
  ·exact cl.t1
  ·exact cl.t2
  ·intro _ _;exact el.symm
 | sK n F k ce el p z =>
  simp only [bE,hok tO,p] at e;simp only [vD,kZ,gQ ce] at e;have cl:=q.cell n F;have T:∀ v:Int,(2≤v)→v≠16→((dC (aD hs i) (aY c n)).code=1∧2≤v∧v≠16∧(dC (aD hs i) (aY c n)).cell=(n:Int)):=fun v a b=>⟨k,a,b,ce⟩
  have A:gJ (g.lc n).sp:=by rw [z];unfold gJ;omega
  rcases (q.way n F).f_look z with s|s|s|s|s
  ·have I:(aY c n).s=0:=by rw [cl.s,s];rfl
   simp [I] at e;obtain ⟨rfl,rfl,_⟩:=bY e;exact ⟨_,q.s0 H F k tO tO ce A tO 4 tO ((q.way n F).s_look0 z s) (.sE n F k ce el rfl il (by simp [dC,I])) (.inl (T 4 tO tO)),qd,bI F ((q.way n F).s_look0_k z s) tO rfl⟩
  ·have I:(aY c n).s=1:=by rw [cl.s,s];rfl
   simp [I] at e;obtain ⟨rfl,rfl,_⟩:=bY e;exact ⟨_,q.s0 H F k tO tO ce A tO 6 tO ((q.way n F).s_look1 z s) (.sP1 n F k ce el rfl il (by simp [dC,I])) (.inl (T 6 tO tO)),qd,bI F ((q.way n F).s_look1_k z s) tO rfl⟩
  ·have I:(aY c n).s=4:=by rw [cl.s,s];rfl
   simp [I] at e;obtain ⟨rfl,rfl,_⟩:=bY e;exact ⟨_,q.s0 H F k tO tO ce A tO 7 tO ((q.way n F).s_look4 z s) (.sC n F k ce el rfl il (cl.t2 ((q.way n F).f_s4 s).1)) (.inl (T 7 tO tO)),qd,bI F ((q.way n F).s_look4_k z s) tO rfl⟩
  ·have I:(aY c n).s=8:=by rw [cl.s,s];rfl
   simp [I] at e;obtain ⟨rfl,rfl,_⟩:=bY e;exact ⟨_,q.s0 H F k tO tO ce A tO 31 tO ((q.way n F).s_look8 z s) (.s0 k (by simp [anew,begun,dC,k])) (.inr ⟨by simp [anew,begun,dC,k],by unfold gJ;omega⟩),qd,bI F ((q.way n F).s_look8_k z s) tO rfl⟩
  ·have I:(aY c n).s=10:=by rw [cl.s,s];rfl
   simp [I] at e;obtain ⟨rfl,rfl,_⟩:=bY e;exact ⟨_,q.s0 H F k tO tO ce A tO 31 tO ((q.way n F).s_look10 z s) (.s0 k (by simp [anew,begun,dC,k])) (.inr ⟨by simp [anew,begun,dC,k],by unfold gJ;omega⟩),qd,bI F ((q.way n F).s_look10_k z s) tO rfl⟩
 | sE n F k ce el p z s =>
  simp only [bE,hok tO,p] at e;simp at e;obtain ⟨rfl,rfl,_⟩:=bY e;have A:gJ (g.lc n).sp:=by rw [z];unfold gJ;omega
  have cE:=q.cE n F;by_cases G:(g.lc n).gp=0
  ·have:¬ (n:Int)<c'.fin:=fun h=>cE.2 h G
   exact ⟨_,q.s0 H F k tO tO ce A tO 5 tO ((q.way n F).s_endo z G) (.sM0 n F k ce el rfl il s (by show c'.fin≤(aD hs i).cell;omega)) (.inl ⟨k,by show (2:Int)≤5;omega,by show (5:Int)≠16;omega,ce⟩),qd,bI F ((q.way n F).s_endo_k z G) tO rfl⟩
  ·have:=cE.1 G
   exact ⟨_,q.s0 H F k tO tO ce A tO 15 tO ((q.way n F).s_endi z G) (.sM1 n F k ce el rfl il s (by show (aD hs i).cell<c'.fin;omega)) (.inl ⟨k,by show (2:Int)≤5;omega,by show (5:Int)≠16;omega,ce⟩),qd,bI F ((q.way n F).s_endi_k z G) tO rfl⟩
 | sM0 n F k ce el p z s f =>
  simp only [bE,hok tO,p] at e;simp at e;obtain ⟨rfl,rfl,_⟩:=bY e;have A:gJ (g.lc n).sp:=by rw [z];unfold gJ;omega
  have cR:=q.cR n F;by_cases G:(g.lc n).rp=0
  ·have:¬ (n:Int)<c'.got:=fun h=>cR.2 h G
   exact ⟨_,q.s0 H F k tO tO ce A tO 16 tO ((q.way n F).s_come0 z G) (.sP0 n F k ce el rfl il s f (by show c'.got≤(aD hs i).cell;omega)) (.inl ⟨k,by show (2:Int)≤6;omega,by show (6:Int)≠16;omega,ce⟩),qd,bI F ((q.way n F).s_come0_k z G) tO rfl⟩
  ·have:=cR.1 G
   exact ⟨_,q.s0 H F k tO tO ce A tO 26 tO ((q.way n F).s_come1 z G) (.sPk n F k ce el rfl il s (.inl (by show (aD hs i).cell<c'.got;omega))) (.inl ⟨k,by show (2:Int)≤6;omega,by show (6:Int)≠16;omega,ce⟩),qd,bI F ((q.way n F).s_come1_k z G) tO rfl⟩
 | sM1 n F k ce el p z s f =>
  simp only [bE,hok tO,p] at e;simp at e;obtain ⟨rfl,rfl,_⟩:=bY e;have A:gJ (g.lc n).sp:=by rw [z];unfold gJ;omega
  exact ⟨_,q.s0 H F k tO tO ce A tO 26 tO ((q.way n F).s_comek z) (.sPk n F k ce el rfl il s (.inr f)) (.inl ⟨k,by show (2:Int)≤6;omega,by show (6:Int)≠16;omega,ce⟩),qd,bI F ((q.way n F).s_comek_k z) tO rfl⟩
 | sP1 n F k ce el p z s =>
  simp only [bE,hok tO,p] at e;simp only [jS,s] at e;have cl:=q.cell n F;have A:gJ (g.lc n).sp:=by rw [z];unfold gJ;omega
  have tb:bB c (n:Int) 1 2 0=((aY c n).s == 1):=mV hc F 1 2 0 tO tO;have L:True:=trivial;simp [L] at e;rw [ce] at e;by_cases G:(g.lc n).s=1
  ·have I:(aY c n).s=1:=by rw [cl.s,G];rfl
   have J:bB c (n:Int) 1 2 0=true:=by rw [tb,I];rfl
   simp only [J,if_true] at e;rw [l7 J] at e;obtain ⟨rfl,rfl,_⟩:=bY e;exact ⟨_,q.s1 H F k tO tO ce A tO 2 0 30 ⟨2,(aY c n).e,0⟩ tO rfl rfl (fun h=>by omega) (fun h=>by omega) ((q.way n F).s_keep1 z G) (.rest rfl) (.inr ⟨by simp [aM],by unfold gJ;omega⟩),qd,bI F ((q.way n F).s_keep1_k z G) tO rfl⟩
  ·have I:¬ (aY c n).s=1:=by rw [cl.s];omega
   have J:bB c (n:Int) 1 2 0=false:=by rw [tb];simpa using I
   rw [ku J] at e;simp only [J,Bool.false_eq_true,if_false] at e;obtain ⟨rfl,rfl,_⟩:=bY e;exact ⟨_,q.s0 H F k tO tO ce A tO 3 tO ((q.way n F).s_lost1 z G) (.sK n F k rfl el rfl il) (.inl ⟨k,by show (2:Int)≤3;omega,by show (3:Int)≠16;omega,rfl⟩),qd,bI F ((q.way n F).s_lost1_k z G) tO rfl⟩
 | sP0 n F k ce el p z s f1 f2 =>
  simp only [bE,hok tO,p] at e;simp only [jS,s] at e;have cl:=q.cell n F;have A:gJ (g.lc n).sp:=by rw [z];unfold gJ;omega
  obtain ⟨_,_,_,_,U⟩:=(q.way n F).f_p0 z;have rm:=q.room F (.inl U);have nf:¬ 80≤c.words.length:=tO;have L:(aD hs i).come≤(aD hs i).cell∧(aD hs i).fin≤(aD hs i).cell:=⟨f2,f1⟩;simp [L] at e;simp only [fA,nf,if_false,ce,s] at e;have tb:bB c (n:Int) 0 3 ((c.words.length:Int)+1)=((aY c n).s == 0):=mV hc F 0 3 _ tO tO;by_cases G:(g.lc n).s=0
  ·have I:(aY c n).s=0:=by rw [cl.s,G];rfl
   have J:bB c (n:Int) 0 3 ((c.words.length:Int)+1)=true:=by rw [tb,I];rfl
   simp only [J,if_true] at e;rw [l7 J] at e;obtain ⟨rfl,rfl,_⟩:=bY e;exact ⟨_,q.waitS (c':={ setAt c (n:Int) ⟨3,(aY c n).e,(c.words.length:Int)+1⟩ with words:=c.words ++ [0] }) H F k p ce z G k rfl rfl rfl rfl rfl rfl rfl rfl (by simp [setAt]) (fun m K=>by show aY (setAt c (n:Int) _) m=_;rw [nA _ (O n F),if_neg (fun e=>K e.symm)]) rfl NV,PH z (jr k) (jr k) cK,bI F ((q.way n F).s_wait_k z G) tO rfl⟩
  ·have I:¬ (aY c n).s=0:=by rw [cl.s];omega
   have J:bB c (n:Int) 0 3 ((c.words.length:Int)+1)=false:=by rw [tb];simpa using I
   rw [ku J] at e;simp only [J,Bool.false_eq_true,if_false] at e;obtain ⟨rfl,rfl,_⟩:=bY e;exact ⟨_,q.s0 H F k tO tO ce A tO 3 tO ((q.way n F).s_lost0 z G) (.sK n F k rfl el rfl il) (.inl ⟨k,by show (2:Int)≤3;omega,by show (3:Int)≠16;omega,rfl⟩),qd,bI F ((q.way n F).s_lost0_k z G) tO rfl⟩
 | sPk n F k ce el p z s f =>
  simp only [bE,hok tO,p] at e;simp only [jS,s] at e;have cl:=q.cell n F;have A:gJ (g.lc n).sp:=by rw [z];unfold gJ;omega
  have tb:bB c (n:Int) 0 2 0=((aY c n).s == 0):=mV hc F 0 2 0 tO tO;have L:¬ ((aD hs i).come≤(aD hs i).cell∧(aD hs i).fin≤(aD hs i).cell):=tO;simp [L] at e;rw [ce] at e;by_cases G:(g.lc n).s=0
  ·have I:(aY c n).s=0:=by rw [cl.s,G];rfl
   have J:bB c (n:Int) 0 2 0=true:=by rw [tb,I];rfl
   simp only [J,if_true] at e;rw [l7 J] at e;obtain ⟨rfl,rfl,_⟩:=bY e;exact ⟨_,q.s1 H F k tO tO ce A tO 2 0 30 ⟨2,(aY c n).e,0⟩ tO rfl rfl (fun h=>by omega) (fun h=>by omega) ((q.way n F).s_keepk z G) (.rest rfl) (.inr ⟨by simp [aM],by unfold gJ;omega⟩),qd,bI F ((q.way n F).s_keepk_k z G) tO rfl⟩
  ·have I:¬ (aY c n).s=0:=by rw [cl.s];omega
   have J:bB c (n:Int) 0 2 0=false:=by rw [tb];simpa using I
   rw [ku J] at e;simp only [J,Bool.false_eq_true,if_false] at e;obtain ⟨rfl,rfl,_⟩:=bY e;exact ⟨_,q.s0 H F k tO tO ce A tO 3 tO ((q.way n F).s_lostk z G) (.sK n F k rfl el rfl il) (.inl ⟨k,by show (2:Int)≤3;omega,by show (3:Int)≠16;omega,rfl⟩),qd,bI F ((q.way n F).s_lostk_k z G) tO rfl⟩
 | sC n F k ce el p z w =>
  simp only [bE,hok tO,p] at e;simp [nZ,w] at e;have A:gJ (g.lc n).sp:=by rw [z];unfold gJ;omega
  have V:=(q.way n F).f_c z;obtain ⟨w1,w2,w3⟩:=(q.word n F).r V;have tb:=xn (n:=n) w1 w2 w3 1 tO;by_cases G:(g.lc n).rw=0
  ·have J:eG c (g.rid n) 1=true:=by rw [tb,G];rfl
   simp only [J,if_true] at e;obtain ⟨rfl,rfl,_⟩:=bY e;exact ⟨_,q.s2 H F k tO tO ce A tO 8 tO V J ((q.way n F).s_call z G) (.sD n F k ce el rfl il) (.inl ⟨k,by show (2:Int)≤8;omega,by show (8:Int)≠16;omega,ce⟩),qd,bI F ((q.way n F).s_call_k z G) tO rfl⟩
  ·have J:eG c (g.rid n) 1=false:=by rw [tb];simpa using G
   rw [uC J] at e;simp only [J,Bool.false_eq_true,if_false] at e;obtain ⟨rfl,rfl,_⟩:=bY e;exact ⟨_,q.s0 H F k tO tO ce A tO 31 tO ((q.way n F).s_callno z G) (.s0 k (by simp [anew,begun,k])) (.inr ⟨by simp [anew,begun,k],by unfold gJ;omega⟩),qd,bI F ((q.way n F).s_callno_k z G) tO rfl⟩
 | sD n F k ce el p z =>
  simp only [bE,hok tO,p] at e;simp at e;rw [ce] at e;obtain ⟨rfl,rfl,_⟩:=bY e;have A:gJ (g.lc n).sp:=by rw [z];unfold gJ;omega
  have cl:=q.cell n F;have R:bZ c (n:Int) 7=setAt c (n:Int) ⟨7,(aY c n).e,(aY c n).t⟩:=by unfold bZ;rw [gQ rfl]
  rw [R];exact ⟨_,q.s1 H F k tO tO ce A tO 7 (g.lc n).wt 30 ⟨7,(aY c n).e,(aY c n).t⟩ tO rfl rfl cl.t1 cl.t2 ((q.way n F).s_done z) (.rest rfl) (.inr ⟨by simp [aM],by unfold gJ;omega⟩),qd,bI F ((q.way n F).s_done_k z) tO rfl⟩
 | sW n F k ce el p z w=>omega
 | sm n F k ce el p z=>omega
 | r0 k p=>omega
 | rV n F k ce p z=>omega
 | rS0 n F k ce p z s=>omega
 | rS1 n F k ce p z s=>omega
 | rT00 n F k ce p z s f1=>omega
 | rT01 n F k ce p z s f1=>omega
 | rT10 n F k ce p z s f1=>omega
 | rT11 n F k ce p z s f1=>omega
 | rT2 n F k ce p z s o=>omega
 | rT3 n F k ce p z s o w=>omega
 | rw n F k ce p z o w=>omega
 | rf n F k ce p z o=>omega
 | rl n F k ce p z=>omega
 | rW n F k ce p z w=>omega
 | rF n F k ce p z w=>omega
 | rm n F k ce p z=>omega
 | g n k b p=>omega
 | gF n m k b K r p z=>omega
 | gX n m k b K r p z=>omega
 | gU0 n m k b K r p z s=>omega
 | gU3 n m k b K r p z s w=>omega
 | gR n m k b K r p z w=>omega
 | gk n m k b K r p z=>omega
 | gl n m k b K r p z=>omega
end
section
theorem In.f_view {x:Lc} (h:In x) (F:x.rp=10):x.s=0∨x.s=1∨x.s=2∨x.s=3∨x.s=9∨x.s=6:=by
 have:=h.imp (fun x=>Nat.beq x.rp 10) (fun x=>Nat.beq x.s 0 || (Nat.beq x.s 1 || (Nat.beq x.s 2 || (Nat.beq x.s 3 || (Nat.beq x.s 9 || Nat.beq x.s 6))))) bH gN;exact mM
theorem In.f_el {x:Lc} (h:In x) (F:x.s=2∨x.s=3):x.sp≠0∧x.sp≠2:=by
 have:=h.imp (fun x=>(Nat.beq x.s 2 || Nat.beq x.s 3)) (fun x=>!(Nat.beq x.sp 0) && !(Nat.beq x.sp 2)) bH gN;exact mM
theorem In.f_rw {x:Lc} (h:In x) (F:x.rp=13):x.sw≠3:=by
 have:=h.imp (fun x=>Nat.beq x.rp 13) (fun x=>!(Nat.beq x.sw 3)) bH gN;exact mM
theorem In.f_gR {x:Lc} (h:In x) (F:x.gp=20):x.sw≠3:=by
 have:=h.imp (fun x=>Nat.beq x.gp 20) (fun x=>!(Nat.beq x.sw 3)) bH gN;exact mM
theorem In.f_sW {x:Lc} (h:In x) (F:x.sp=23):x.sw≠3∧(x.sw=0∨x.sw=1∨x.sw=2):=by
 have:=h.imp (fun x=>Nat.beq x.sp 23) (fun x=>!(Nat.beq x.sw 3) && (Nat.beq x.sw 0 || (Nat.beq x.sw 1 || Nat.beq x.sw 2))) bH gN;exact mM
theorem In.f_rW {x:Lc} (h:In x) (F:x.rp=23):x.rw≠3∧(x.rw=0∨x.rw=1∨x.rw=2):=by
 have:=h.imp (fun x=>Nat.beq x.rp 23) (fun x=>!(Nat.beq x.rw 3) && (Nat.beq x.rw 0 || (Nat.beq x.rw 1 || Nat.beq x.rw 2))) bH gN;exact mM
theorem In.f_rF {x:Lc} (h:In x) (F:x.rp=24):x.sp≠0∧x.sp≠2:=by
 have:=h.imp (fun x=>Nat.beq x.rp 24) (fun x=>!(Nat.beq x.sp 0) && !(Nat.beq x.sp 2)) bH gN;exact mM
theorem Q.recv {c c':Ch} {hs:List Ha} {g:Gh} {i:Nat} {h':Ha} (q:Q c hs g) (K:i<hs.length) (hc:aN c=true) (T:aU (aD hs i)=true) (X:(aD hs i).code=2) (p1:9≤(aD hs i).pos∧(aD hs i).pos≤15) (e:aO c (aD hs i)=(c',h',true)):∃ g',Q c' (hs.set i h') g'∧(∃ ev,Nx g g' (aD hs i) h' ev)∧xP g g' (aD hs i) h':=by
 have hok:bC c (aD hs i) 9 15 2=true:=by
  have:dV (aD hs i).pos 9 15=true:=by simp only [dK];omega
  simp [bC,hc,T,this,X]
 have O:∀ n,n<40→n<c.cells.length:=fun n F=>by rw [q.len];exact F
 cases q.hand i K with
 | r0 k p =>
  simp only [aO,hok,p,if_true] at e;simp [sN] at e;have hr:0≤c.got∧c.got≤40:=by
   simp only [aN,fH,Bool.and_eq_true,dK] at hc;omega
  by_cases M:c.got=40
  ·simp only [M,if_true] at e
   obtain ⟨rfl,rfl,_⟩:=bY e;exact ⟨g,q.idle K (.rest rfl) (jg k) (iO tO) tO (mU mq) (iO mq) mq,KU (iO tO) (by unfold rc;simp [aM]) mq,Dk tO rfl⟩
  ·simp only [M,if_false] at e
   obtain ⟨rfl,rfl,_⟩:=bY e;obtain ⟨m,L⟩:∃ m:Nat,c.got=(m:Int):=⟨c.got.toNat,by omega⟩;exact ⟨_,q.takeR K tO L k p k rfl L,PI (zR q tO L) (iO tO) (rc_at k cK L) cK,bI (n0:=m) tO ((q.way m tO).r_take_k (zR q tO L)) tO rfl⟩
 | rV n F k ce p z =>
  simp only [aO,hok,p] at e;simp only [sP,iV,gQ ce] at e;have cl:=q.cell n F;have A:gL (g.lc n).rp:=by rw [z];unfold gL;omega
  have J:aR (g.lc n).rp=0:=by rw [z];rfl
  have U:(g.lc n).s=2∨(g.lc n).s=3→(aY c n).e=g.el n:=fun h=>by
   obtain ⟨a,b⟩:=(q.way n F).f_el h;exact cl.e a b
  rcases (q.way n F).f_view z with s|s|s|s|s|s
  ·have I:(aY c n).s=0:=by rw [cl.s,s];rfl
   simp [I] at e;obtain ⟨rfl,rfl,_⟩:=bY e;exact ⟨_,q.r0 K F k tO tO ce A 11 tO ((q.way n F).r_view0 z s) (.rS0 n F k ce rfl il (by simp [dD,I])) (.inl ⟨k,by show (10:Int)≤11;omega,by show ((11:Int)<16∨22<(11:Int));omega,ce,by rw [J];rfl⟩),(nL A rfl (rc_at k tO ce) nz (.inl ⟨by simp,by simp,by simp [aM,anew,begun,dD,dL,k]⟩)),bI F ((q.way n F).r_view0_k z s) tO rfl⟩
  ·have I:(aY c n).s=1:=by rw [cl.s,s];rfl
   simp [I] at e;obtain ⟨rfl,rfl,_⟩:=bY e;exact ⟨_,q.r0 K F k tO tO ce A 21 tO ((q.way n F).r_view1 z s) (.rS1 n F k ce rfl il (by simp [dD,I])) (.inl ⟨k,by show (10:Int)≤11;omega,by show ((11:Int)<16∨22<(11:Int));omega,ce,by rw [J];rfl⟩),(nL A rfl (rc_at k tO ce) nz (.inl ⟨by simp,by simp,by simp [aM,anew,begun,dD,dL,k]⟩)),bI F ((q.way n F).r_view1_k z s) tO rfl⟩
  ·have I:(aY c n).s=2:=by rw [cl.s,s];rfl
   simp [I] at e;obtain ⟨rfl,rfl,_⟩:=bY e;exact ⟨_,q.r0 K F k tO tO ce A 52 tO ((q.way n F).r_view2 z s) (.rT2 n F k ce rfl il (by simp [dD,I]) (U (.inl s))) (.inl ⟨k,by show (10:Int)≤12;omega,by show ((12:Int)<16∨22<(12:Int));omega,ce,by rw [J];rfl⟩),(nL A rfl (rc_at k tO ce) nz (.inl ⟨by simp,by simp,by simp [aM,anew,begun,dD,dL,k]⟩)),bI F ((q.way n F).r_view2_k z s) tO rfl⟩
  ·have I:(aY c n).s=3:=by rw [cl.s,s];rfl
   simp [I] at e;obtain ⟨rfl,rfl,_⟩:=bY e;exact ⟨_,q.r0 K F k tO tO ce A 62 tO ((q.way n F).r_view3 z s) (.rT3 n F k ce rfl il (by simp [dD,I]) (U (.inr s)) (cl.t1 ((q.way n F).f_s3 s).1)) (.inl ⟨k,by show (10:Int)≤12;omega,by show ((12:Int)<16∨22<(12:Int));omega,ce,by rw [J];rfl⟩),(nL A rfl (rc_at k tO ce) nz (.inl ⟨by simp,by simp,by simp [aM,anew,begun,dD,dL,k]⟩)),bI F ((q.way n F).r_view3_k z s) tO rfl⟩
  ·have I:(aY c n).s=9:=by rw [cl.s,s];rfl
   simp [I] at e;obtain ⟨rfl,rfl,_⟩:=bY e;exact ⟨_,q.r0 K F k tO tO ce A 71 tO ((q.way n F).r_view9 z s) (.r0 k (by simp [anew,begun,dD,k])) (.inr (.inr ⟨.inr ⟨by simp [anew,begun,dD,k],k⟩,by unfold gL;omega,by rw [J];rfl⟩)),(nL A rfl (rc_at k tO ce) nz (.inl ⟨by simp,by simp,by simp [aM,anew,begun,dD,dL,k]⟩)),bI F ((q.way n F).r_view9_k z s) tO rfl⟩
  ·have I:(aY c n).s=6:=by rw [cl.s,s];rfl
   simp [I] at e
 | rS0 n F k ce p z s =>
  simp only [aO,hok,p] at e;simp at e;obtain ⟨rfl,rfl,_⟩:=bY e;have A:gL (g.lc n).rp:=by rw [z];unfold gL;omega
  have J:aR (g.lc n).rp=0:=by rw [z];rfl
  have cS:=q.cS n F;by_cases G:(g.lc n).sp=0
  ·have:¬ (n:Int)<c'.sent:=fun h=>cS.2 h G
   exact ⟨_,q.r0 K F k tO tO ce A 12 tO ((q.way n F).r_sent00 z G) (.rT00 n F k ce rfl il s (by show c'.sent≤(aD hs i).cell;omega)) (.inl ⟨k,by show (10:Int)≤12;omega,by show ((12:Int)<16∨22<(12:Int));omega,ce,by rw [J];rfl⟩),(nL A rfl (rc_at k tO ce) nz (.inl ⟨by simp,by simp,by simp [aM,anew,begun,dD,dL,k]⟩)),bI F ((q.way n F).r_sent00_k z G) tO rfl⟩
  ·have:=cS.1 G
   exact ⟨_,q.r0 K F k tO tO ce A 22 tO ((q.way n F).r_sent01 z G) (.rT01 n F k ce rfl il s (by show (aD hs i).cell<c'.sent;omega)) (.inl ⟨k,by show (10:Int)≤12;omega,by show ((12:Int)<16∨22<(12:Int));omega,ce,by rw [J];rfl⟩),(nL A rfl (rc_at k tO ce) nz (.inl ⟨by simp,by simp,by simp [aM,anew,begun,dD,dL,k]⟩)),bI F ((q.way n F).r_sent01_k z G) tO rfl⟩
 | rS1 n F k ce p z s =>
  simp only [aO,hok,p] at e;simp at e;obtain ⟨rfl,rfl,_⟩:=bY e;have A:gL (g.lc n).rp:=by rw [z];unfold gL;omega
  have J:aR (g.lc n).rp=0:=by rw [z];rfl
  have cS:=q.cS n F;by_cases G:(g.lc n).sp=0
  ·have:¬ (n:Int)<c'.sent:=fun h=>cS.2 h G
   exact ⟨_,q.r0 K F k tO tO ce A 32 tO ((q.way n F).r_sent10 z G) (.rT10 n F k ce rfl il s (by show c'.sent≤(aD hs i).cell;omega)) (.inl ⟨k,by show (10:Int)≤12;omega,by show ((12:Int)<16∨22<(12:Int));omega,ce,by rw [J];rfl⟩),(nL A rfl (rc_at k tO ce) nz (.inl ⟨by simp,by simp,by simp [aM,anew,begun,dD,dL,k]⟩)),bI F ((q.way n F).r_sent10_k z G) tO rfl⟩
  ·have:=cS.1 G
   exact ⟨_,q.r0 K F k tO tO ce A 42 tO ((q.way n F).r_sent11 z G) (.rT11 n F k ce rfl il s (by show (aD hs i).cell<c'.sent;omega)) (.inl ⟨k,by show (10:Int)≤12;omega,by show ((12:Int)<16∨22<(12:Int));omega,ce,by rw [J];rfl⟩),(nL A rfl (rc_at k tO ce) nz (.inl ⟨by simp,by simp,by simp [aM,anew,begun,dD,dL,k]⟩)),bI F ((q.way n F).r_sent11_k z G) tO rfl⟩
 | rT2 n F k ce p z s o =>
  simp only [aO,hok,p] at e;simp [fZ,s] at e;simp only [iF,s,ce] at e;have cl:=q.cell n F;have A:gL (g.lc n).rp:=by rw [z];unfold gL;omega
  have J:aR (g.lc n).rp=0:=by rw [z];rfl
  have tb:bB c (n:Int) 2 7 0=((aY c n).s == 2):=mV hc F 2 7 _ tO tO;by_cases G:(g.lc n).s=2
  ·have I:(aY c n).s=2:=by rw [cl.s,G];rfl
   have H:bB c (n:Int) 2 7 0=true:=by rw [tb,I];rfl
   simp only [H,if_true] at e;rw [l7 H] at e;obtain ⟨rfl,rfl,_⟩:=bY e;exact ⟨_,q.r1 K F k tO tO ce A 7 0 70 ⟨7,(aY c n).e,0⟩ tO rfl rfl (fun h=>by omega) (fun h=>by omega) ((q.way n F).r_take2 z G) (.g n k ⟨F,ky,.inl ⟨rfl,by rw [gu],o⟩⟩ rfl) (.inr (.inl ⟨k,rfl,ky,by rw [J];rfl⟩)),(nL A rfl (rc_at k tO ce) nz (.inr (.inl ⟨rfl,rc_at TU (by simp [dL]) ky,by simp [dL]⟩))),bI F ((q.way n F).r_take2_k z G) tO rfl⟩
  ·have I:¬ (aY c n).s=2:=by rw [cl.s];omega
   have H:bB c (n:Int) 2 7 0=false:=by rw [tb];simpa using I
   rw [ku H] at e;simp only [H,Bool.false_eq_true,if_false] at e;obtain ⟨rfl,rfl,_⟩:=bY e;exact ⟨_,q.r0 K F k tO tO ce A 10 tO ((q.way n F).r_lost2 z G) (.rV n F k ky rfl il) (.inl ⟨k,by show (10:Int)≤10;omega,by show ((10:Int)<16∨22<(10:Int));omega,ky,by rw [J];rfl⟩),(nL A rfl (rc_at k tO ce) nz (.inl ⟨by simp,by simp,by simp [aM,anew,begun,dD,dL,k]⟩)),bI F ((q.way n F).r_lost2_k z G) tO rfl⟩
 | rT3 n F k ce p z s o w =>
  simp only [aO,hok,p] at e;simp [fZ,s] at e;simp only [iF,s,ce] at e;have cl:=q.cell n F;have A:gL (g.lc n).rp:=by rw [z];unfold gL;omega
  have J:aR (g.lc n).rp=0:=by rw [z];rfl
  have hv:0≤(aD hs i).wait∧(aD hs i).wait≤80:=by
   simp only [aU,sI,Bool.and_eq_true,dK] at T;omega
  have tb:bB c (n:Int) 3 5 (aD hs i).wait=((aY c n).s == 3):=mV hc F 3 5 _ tO tO;by_cases G:(g.lc n).s=3
  ·have I:(aY c n).s=3:=by rw [cl.s,G];rfl
   have H:bB c (n:Int) 3 5 (aD hs i).wait=true:=by rw [tb,I];rfl
   simp only [H,if_true] at e;rw [l7 H] at e;obtain ⟨rfl,rfl,_⟩:=bY e;exact ⟨_,q.r1 K F k tO tO ce A 5 (g.lc n).wt 13 ⟨5,(aY c n).e,(aD hs i).wait⟩ tO rfl rfl (fun _=>w) (fun h=>by have:=((q.way n F).f_s3 G).1;omega) ((q.way n F).r_take3 z G) (.rw n F k ky rfl il o w) (.inl ⟨k,by show (10:Int)≤13;omega,by show ((13:Int)<16∨22<(13:Int));omega,ky,by rw [J];rfl⟩),(nL A rfl (rc_at k tO ce) nz (.inl ⟨by simp,by simp,by simp [aM,anew,begun,dD,dL,k]⟩)),bI F ((q.way n F).r_take3_k z G) tO rfl⟩
  ·have I:¬ (aY c n).s=3:=by rw [cl.s];omega
   have H:bB c (n:Int) 3 5 (aD hs i).wait=false:=by rw [tb];simpa using I
   rw [ku H] at e;simp only [H,Bool.false_eq_true,if_false] at e;obtain ⟨rfl,rfl,_⟩:=bY e;exact ⟨_,q.r0 K F k tO tO ce A 10 tO ((q.way n F).r_lost3 z G) (.rV n F k ky rfl il) (.inl ⟨k,by show (10:Int)≤10;omega,by show ((10:Int)<16∨22<(10:Int));omega,ky,by rw [J];rfl⟩),(nL A rfl (rc_at k tO ce) nz (.inl ⟨by simp,by simp,by simp [aM,anew,begun,dD,dL,k]⟩)),bI F ((q.way n F).r_lost3_k z G) tO rfl⟩
 | rT01 n F k ce p z s f =>
  simp only [aO,hok,p] at e;simp [fZ,s,f] at e;simp only [iF,s,ce] at e;have cl:=q.cell n F;have A:gL (g.lc n).rp:=by rw [z];unfold gL;omega
  have J:aR (g.lc n).rp=0:=by rw [z];rfl
  have tb:bB c (n:Int) 0 8 0=((aY c n).s == 0):=mV hc F 0 8 _ tO tO;by_cases G:(g.lc n).s=0
  ·have I:(aY c n).s=0:=by rw [cl.s,G];rfl
   have H:bB c (n:Int) 0 8 0=true:=by rw [tb,I];rfl
   simp only [H,if_true] at e;rw [l7 H] at e;obtain ⟨rfl,rfl,_⟩:=bY e;exact ⟨_,q.r1 K F k tO tO ce A 8 0 73 ⟨8,(aY c n).e,0⟩ tO rfl rfl (fun h=>by omega) (fun h=>by omega) ((q.way n F).r_poi0 z G) (.g n k ⟨F,ky,.inr (.inr ⟨rfl,by rw [gu]⟩)⟩ rfl) (.inr (.inl ⟨k,rfl,ky,by rw [J];rfl⟩)),(nL A rfl (rc_at k tO ce) nz (.inl ⟨by simp,by simp,by simp [aM,anew,begun,dD,dL,k]⟩)),bI F ((q.way n F).r_poi0_k z G) tO rfl⟩
  ·have I:¬ (aY c n).s=0:=by rw [cl.s];omega
   have H:bB c (n:Int) 0 8 0=false:=by rw [tb];simpa using I
   rw [ku H] at e;simp only [H,Bool.false_eq_true,if_false] at e;obtain ⟨rfl,rfl,_⟩:=bY e;exact ⟨_,q.r0 K F k tO tO ce A 10 tO ((q.way n F).r_lost01 z G) (.rV n F k ky rfl il) (.inl ⟨k,by show (10:Int)≤10;omega,by show ((10:Int)<16∨22<(10:Int));omega,ky,by rw [J];rfl⟩),(nL A rfl (rc_at k tO ce) nz (.inl ⟨by simp,by simp,by simp [aM,anew,begun,dD,dL,k]⟩)),bI F ((q.way n F).r_lost01_k z G) tO rfl⟩
 | rT11 n F k ce p z s f =>
  simp only [aO,hok,p] at e;simp [fZ,s,f] at e;simp only [iF,s,ce] at e;have cl:=q.cell n F;have A:gL (g.lc n).rp:=by rw [z];unfold gL;omega
  have J:aR (g.lc n).rp=0:=by rw [z];rfl
  have tb:bB c (n:Int) 1 8 0=((aY c n).s == 1):=mV hc F 1 8 _ tO tO;by_cases G:(g.lc n).s=1
  ·have I:(aY c n).s=1:=by rw [cl.s,G];rfl
   have H:bB c (n:Int) 1 8 0=true:=by rw [tb,I];rfl
   simp only [H,if_true] at e;rw [l7 H] at e;obtain ⟨rfl,rfl,_⟩:=bY e;exact ⟨_,q.r1 K F k tO tO ce A 8 0 73 ⟨8,(aY c n).e,0⟩ tO rfl rfl (fun h=>by omega) (fun h=>by omega) ((q.way n F).r_poi1 z G) (.g n k ⟨F,ky,.inr (.inr ⟨rfl,by rw [gu]⟩)⟩ rfl) (.inr (.inl ⟨k,rfl,ky,by rw [J];rfl⟩)),(nL A rfl (rc_at k tO ce) nz (.inl ⟨by simp,by simp,by simp [aM,anew,begun,dD,dL,k]⟩)),bI F ((q.way n F).r_poi1_k z G) tO rfl⟩
  ·have I:¬ (aY c n).s=1:=by rw [cl.s];omega
   have H:bB c (n:Int) 1 8 0=false:=by rw [tb];simpa using I
   rw [ku H] at e;simp only [H,Bool.false_eq_true,if_false] at e;obtain ⟨rfl,rfl,_⟩:=bY e;exact ⟨_,q.r0 K F k tO tO ce A 10 tO ((q.way n F).r_lost11 z G) (.rV n F k ky rfl il) (.inl ⟨k,by show (10:Int)≤10;omega,by show ((10:Int)<16∨22<(10:Int));omega,ky,by rw [J];rfl⟩),(nL A rfl (rc_at k tO ce) nz (.inl ⟨by simp,by simp,by simp [aM,anew,begun,dD,dL,k]⟩)),bI F ((q.way n F).r_lost11_k z G) tO rfl⟩
 | rT00 n F k ce p z s f =>
  simp only [aO,hok,p] at e;have WB:¬ (aD hs i).cell<(aD hs i).come:=tO;simp [fZ,s,WB] at e;have cl:=q.cell n F;have A:gL (g.lc n).rp:=by rw [z];unfold gL;omega
  have J:aR (g.lc n).rp=0:=by rw [z];rfl
  obtain ⟨_,N⟩:=(q.way n F).f_t0 (.inl z);have rm:=q.room F (.inr N);have R:¬ 80≤c.words.length:=tO;simp only [fA,R,if_false,ce,s] at e;have tb:bB c (n:Int) 0 4 ((c.words.length:Int)+1)=((aY c n).s == 0):=mV hc F 0 4 _ tO tO;by_cases G:(g.lc n).s=0
  ·have I:(aY c n).s=0:=by rw [cl.s,G];rfl
   have H:bB c (n:Int) 0 4 ((c.words.length:Int)+1)=true:=by rw [tb,I];rfl
   simp only [H,if_true,oH] at e;rw [l7 H] at e;simp at e;obtain ⟨rfl,rfl,_⟩:=bY e;exact ⟨_,q.waitR (c':={ setAt c (n:Int) ⟨4,(aY c n).e,(c.words.length:Int)+1⟩ with words:=c.words ++ [0] }) K F k p ce (.inl z) ((q.way n F).r_wait0 z G) k rfl ky rfl rfl rfl rfl rfl rfl (by simp [setAt]) (fun m L=>by show aY (setAt c (n:Int) _) m=_;rw [nA _ (O n F),if_neg (fun e=>L e.symm)]) rfl NV,Gz (by first|exact .inl z|exact .inr z) (rc_at k tO ce) (rc_at k cK ky) cK,bI F ((q.way n F).r_wait0_k z G) tO rfl⟩
  ·have I:¬ (aY c n).s=0:=by rw [cl.s];omega
   have H:bB c (n:Int) 0 4 ((c.words.length:Int)+1)=false:=by rw [tb];simpa using I
   rw [ku H] at e;simp only [H,Bool.false_eq_true,if_false,oH] at e;simp at e;obtain ⟨rfl,rfl,_⟩:=bY e;exact ⟨_,q.r0 K F k tO tO ce A 10 tO ((q.way n F).r_lost00 z G) (.rV n F k ky rfl il) (.inl ⟨k,by show (10:Int)≤10;omega,by show ((10:Int)<16∨22<(10:Int));omega,ky,by rw [J];rfl⟩),(nL A rfl (rc_at k tO ce) nz (.inl ⟨by simp,by simp,by simp [aM,anew,begun,dD,dL,k]⟩)),bI F ((q.way n F).r_lost00_k z G) tO rfl⟩
 | rT10 n F k ce p z s f =>
  simp only [aO,hok,p] at e;have WB:¬ (aD hs i).cell<(aD hs i).come:=tO;simp [fZ,s,WB] at e;have cl:=q.cell n F;have A:gL (g.lc n).rp:=by rw [z];unfold gL;omega
  have J:aR (g.lc n).rp=0:=by rw [z];rfl
  obtain ⟨_,N⟩:=(q.way n F).f_t0 (.inr z);have rm:=q.room F (.inr N);have R:¬ 80≤c.words.length:=tO;simp only [fA,R,if_false,ce,s] at e;have tb:bB c (n:Int) 1 4 ((c.words.length:Int)+1)=((aY c n).s == 1):=mV hc F 1 4 _ tO tO;by_cases G:(g.lc n).s=1
  ·have I:(aY c n).s=1:=by rw [cl.s,G];rfl
   have H:bB c (n:Int) 1 4 ((c.words.length:Int)+1)=true:=by rw [tb,I];rfl
   simp only [H,if_true,oH] at e;rw [l7 H] at e;simp at e;obtain ⟨rfl,rfl,_⟩:=bY e;exact ⟨_,q.waitR (c':={ setAt c (n:Int) ⟨4,(aY c n).e,(c.words.length:Int)+1⟩ with words:=c.words ++ [0] }) K F k p ce (.inr z) ((q.way n F).r_wait1 z G) k rfl ky rfl rfl rfl rfl rfl rfl (by simp [setAt]) (fun m L=>by show aY (setAt c (n:Int) _) m=_;rw [nA _ (O n F),if_neg (fun e=>L e.symm)]) rfl NV,Gz (by first|exact .inl z|exact .inr z) (rc_at k tO ce) (rc_at k cK ky) cK,bI F ((q.way n F).r_wait1_k z G) tO rfl⟩
  ·have I:¬ (aY c n).s=1:=by rw [cl.s];omega
   have H:bB c (n:Int) 1 4 ((c.words.length:Int)+1)=false:=by rw [tb];simpa using I
   rw [ku H] at e;simp only [H,Bool.false_eq_true,if_false,oH] at e;simp at e;obtain ⟨rfl,rfl,_⟩:=bY e;exact ⟨_,q.r0 K F k tO tO ce A 10 tO ((q.way n F).r_lost10 z G) (.rV n F k ky rfl il) (.inl ⟨k,by show (10:Int)≤10;omega,by show ((10:Int)<16∨22<(10:Int));omega,ky,by rw [J];rfl⟩),(nL A rfl (rc_at k tO ce) nz (.inl ⟨by simp,by simp,by simp [aM,anew,begun,dD,dL,k]⟩)),bI F ((q.way n F).r_lost10_k z G) tO rfl⟩
 | rw n F k ce p z o w =>
  simp only [aO,hok,p] at e;simp [yG,w] at e;have A:gL (g.lc n).rp:=by rw [z];unfold gL;omega
  have J:aR (g.lc n).rp=0:=by rw [z];rfl
  have V:=(q.way n F).f_rw z;obtain ⟨Y,Z,w3⟩:=(q.word n F).s V;have tb:=xn (n:=n) Y Z w3 1 tO;by_cases G:(g.lc n).sw=0
  ·have H:eG c (g.sid n) 1=true:=by rw [tb,G];rfl
   simp only [H,if_true] at e;obtain ⟨rfl,rfl,_⟩:=bY e;exact ⟨_,q.r2 K F k tO tO ce A 14 tO V H ((q.way n F).r_wake z G) (.rf n F k ce rfl il o) (.inl ⟨k,by show (10:Int)≤14;omega,by show ((14:Int)<16∨22<(14:Int));omega,ce,by rw [J];rfl⟩),(nL A rfl (rc_at k tO ce) nz (.inl ⟨by simp,by simp,by simp [aM,anew,begun,dD,dL,k]⟩)),bI F ((q.way n F).r_wake_k z G) tO rfl⟩
  ·have H:eG c (g.sid n) 1=false:=by rw [tb];simpa using G
   rw [uC H] at e;simp only [H,Bool.false_eq_true,if_false] at e;obtain ⟨rfl,rfl,_⟩:=bY e;exact ⟨_,q.r0 K F k tO tO ce A 15 tO ((q.way n F).r_wakeno z G) (.rl n F k ce rfl il) (.inl ⟨k,by show (10:Int)≤15;omega,by show ((15:Int)<16∨22<(15:Int));omega,ce,by rw [J];rfl⟩),(nL A rfl (rc_at k tO ce) nz (.inl ⟨by simp,by simp,by simp [aM,anew,begun,dD,dL,k]⟩)),bI F ((q.way n F).r_wakeno_k z G) tO rfl⟩
 | rf n F k ce p z o =>
  simp only [aO,hok,p] at e;simp at e;rw [show bZ c (aD hs i).cell 7=setAt c (n:Int) ⟨7,(aY c n).e,(aY c n).t⟩ by rw [ce];unfold bZ;rw [gQ rfl]] at e
  obtain ⟨rfl,rfl,_⟩:=bY e;have A:gL (g.lc n).rp:=by rw [z];unfold gL;omega
  have J:aR (g.lc n).rp=0:=by rw [z];rfl
  have cl:=q.cell n F;exact ⟨_,q.r1 K F k tO tO ce A 7 (g.lc n).wt 70 ⟨7,(aY c n).e,(aY c n).t⟩ tO rfl rfl cl.t1 cl.t2 ((q.way n F).r_fin z) (.g n k ⟨F,ce,.inl ⟨rfl,by rw [gu],o⟩⟩ rfl) (.inr (.inl ⟨k,rfl,ce,by rw [J];rfl⟩)),(nL A rfl (rc_at k tO ce) nz (.inr (.inl ⟨rfl,rc_at TU (by simp [dL]) ky,by simp [dL]⟩))),bI F ((q.way n F).r_fin_k z) tO rfl⟩
 | rl n F k ce p z =>
  simp only [aO,hok,p] at e;simp at e;rw [show bZ c (aD hs i).cell 9=setAt c (n:Int) ⟨9,(aY c n).e,(aY c n).t⟩ by rw [ce];unfold bZ;rw [gQ rfl]] at e
  obtain ⟨rfl,rfl,_⟩:=bY e;have A:gL (g.lc n).rp:=by rw [z];unfold gL;omega
  have J:aR (g.lc n).rp=0:=by rw [z];rfl
  have cl:=q.cell n F;exact ⟨_,q.r1 K F k tO tO ce A 9 (g.lc n).wt 71 ⟨9,(aY c n).e,(aY c n).t⟩ tO rfl rfl cl.t1 cl.t2 ((q.way n F).r_fail z) (.r0 k (by simp [anew,begun,k])) (.inr (.inr ⟨.inr ⟨by simp [anew,begun,k],k⟩,by unfold gL;omega,by rw [J];rfl⟩)),(nL A rfl (rc_at k tO ce) nz (.inl ⟨by simp,by simp,by simp [aM,anew,begun,dD,dL,k]⟩)),bI F ((q.way n F).r_fail_k z) tO rfl⟩
 | rest p=>omega
 | s0 k p=>omega
 | sL n F k ce el p z=>omega
 | sK n F k ce el p z=>omega
 | sE n F k ce el p z s=>omega
 | sM0 n F k ce el p z s f1=>omega
 | sM1 n F k ce el p z s f1=>omega
 | sP1 n F k ce el p z s=>omega
 | sP0 n F k ce el p z s f1 f2=>omega
 | sPk n F k ce el p z s f1=>omega
 | sC n F k ce el p z w=>omega
 | sD n F k ce el p z=>omega
 | sW n F k ce el p z w=>omega
 | sm n F k ce el p z=>omega
 | rW n F k ce p z w=>omega
 | rF n F k ce p z w=>omega
 | rm n F k ce p z=>omega
 | g n k b p=>omega
 | gF n m k b L r p z=>omega
 | gX n m k b L r p z=>omega
 | gU0 n m k b L r p z s=>omega
 | gU3 n m k b L r p z s w=>omega
 | gR n m k b L r p z w=>omega
 | gk n m k b L r p z=>omega
 | gl n m k b L r p z=>omega
theorem Q.grow {c c':Ch} {hs:List Ha} {g:Gh} {i:Nat} {h':Ha} (q:Q c hs g) (I:i<hs.length) (hc:aN c=true) (V:aU (aD hs i)=true) (k1:(aD hs i).code=2) (p1:16≤(aD hs i).pos∧(aD hs i).pos≤22) (e:aW c (aD hs i)=(c',h',true)):∃ g',Q c' (hs.set i h') g'∧(∃ ev,Nx g g' (aD hs i) h' ev)∧xP g g' (aD hs i) h':=by
 have hok:bC c (aD hs i) 16 22 2=true:=by
  have:dV (aD hs i).pos 16 22=true:=by simp only [dK];omega
  simp [bC,hc,V,this,k1]
 have hl:∀ n,n<40→n<c.cells.length:=fun n G=>by rw [q.len];exact G
 have L:∀ {y:Lc} {m n:Nat} {h:Ha},Gp g h n→y.rp=(g.lc m).rp→∀ h':Ha,h'.cell=h.cell→h'.nxt=h.nxt→h'.out=h.out→h'.mine=h.mine→Gp (g.put m y) h' n:=fun {y m n h} b U h' Z a2 a3 a4=>b.frame Z a2 a3 a4 (if e:n=m then (by subst e;rw [gu];exact U) else CJ) rfl rfl
 have M:∀ {y:Lc} {m n:Nat} {h:Ha},h.code=2→Gp g h n→y.rp=(g.lc m).rp→HP (g.put m y) (bF h):=fun {y m n h} k b U=>HP.grown (g':=g.put m y) k b (if e:n=m then (by subst e;rw [gu];exact U) else CJ) rfl
 cases q.hand i I with
 | g n k b p =>
  simp only [aW,hok,p,if_true] at e;simp at e;by_cases T:c.cap=0∨c.fin=40
  ·have R:ib c (aD hs i)=(c,bF (aD hs i)):=by
    unfold ib;rw [if_pos (by simpa using T)]
   rw [R] at e;obtain ⟨rfl,rfl,_⟩:=bY e;exact ⟨g,q.free I k p b T,oK k b tO rfl (fun _=>rfl) (fun _=>rfl) (.inr ⟨_,k,b,rfl⟩),M3 p⟩
  ·have R:ib c (aD hs i)=({ c with fin:=c.fin+1 },{ aD hs i with grow:=c.fin,pos:=17 }):=by
    unfold ib;rw [if_neg (by simpa using T)]
   rw [R] at e;have hr:0≤c.fin∧c.fin≤40:=by
    simp only [aN,fH,Bool.and_eq_true,dK] at hc;omega
   obtain ⟨rfl,rfl,_⟩:=bY e;obtain ⟨m,F⟩:∃ m:Nat,c.fin=(m:Int):=⟨c.fin.toNat,by omega⟩;exact ⟨_,q.takeG I tO F tO k p b k rfl F rfl rfl rfl rfl,oK k b tO rfl (jO rfl) (kL rfl) (.inl ⟨k,by simp,b.2.1⟩),bI (n0:=m) tO ((q.way m tO).g_take_k (Classical.byContradiction fun h=>by have:=(q.cE _ tO).1 h;omega)) tO rfl⟩
 | gF n m k b F r p z =>
  simp only [aW,hok,p] at e;simp at e;have A:iM (g.lc m).gp:=by rw [z];unfold iM;omega
  have cS:=q.cS m F;by_cases H:(g.lc m).sp=0
  ·have:¬ (m:Int)<c.sent:=fun h=>cS.2 h H
   have h1:c.sent≤(aD hs i).grow:=tO;simp only [h1,if_true] at e;obtain ⟨rfl,rfl,_⟩:=bY e;exact ⟨_,q.g0 I F k tO tO r b A 30 tO ((q.way m F).g_far0 z H) (M k b rfl) (.inr (.inr ⟨⟨_,k,b,rfl⟩,rfl,by unfold iM;omega⟩)),oK k b tO rfl (jO rfl) (kL rfl) wO,bI F ((q.way m F).g_far0_k z H) tO rfl⟩
  ·have:=cS.1 H
   have h1:¬ c.sent≤(aD hs i).grow:=tO;simp only [h1,if_false] at e;obtain ⟨rfl,rfl,_⟩:=bY e;exact ⟨_,q.g0 I F k tO tO r b A 18 tO ((q.way m F).g_far1 z H) (.gX n m k vv F r rfl il) (.inl ⟨k,by show (17:Int)≤18;omega,by show (18:Int)≤22;omega,b.2.1,r,rfl⟩),oK k b tO rfl (jO rfl) (kL rfl) wO,bI F ((q.way m F).g_far1_k z H) tO rfl⟩
 | gX n m k b F r p z =>
  simp only [aW,hok,p] at e;simp [ko,gQ r] at e;have A:iM (g.lc m).gp:=by rw [z];unfold iM;omega
  have cl:=q.cell m F;have X:(g.lc m).s≠5:=fun h=>by
   have J:(aY c m).s=5:=by rw [cl.s,h];rfl
   simp [J] at e
  have n5':¬ (aY c m).s=5:=by rw [cl.s];omega
  simp only [n5',if_false,lZ,gQ r] at e;by_cases s0:(g.lc m).s=0
  ·have J:(aY c m).s=0:=by rw [cl.s,s0];rfl
   simp [J] at e;obtain ⟨rfl,rfl,_⟩:=bY e;exact ⟨_,q.g0 I F k tO tO r b A 19 tO ((q.way m F).g_meet0 z s0) (.gU0 n m k vv F r rfl il (by simp [dC,J])) (.inl ⟨k,by show (17:Int)≤19;omega,by show (19:Int)≤22;omega,b.2.1,r,rfl⟩),oK k b tO rfl (jO rfl) (kL rfl) wO,bI F ((q.way m F).g_meet0_k z s0) tO rfl⟩
  by_cases N:(g.lc m).s=3
  ·have J:(aY c m).s=3:=by rw [cl.s,N];rfl
   simp [J] at e;obtain ⟨rfl,rfl,_⟩:=bY e;exact ⟨_,q.g0 I F k tO tO r b A 29 tO ((q.way m F).g_meet3 z N) (.gU3 n m k vv F r rfl il (by simp [dC,J]) (cl.t1 ((q.way m F).f_s3 N).1)) (.inl ⟨k,by show (17:Int)≤19;omega,by show (19:Int)≤22;omega,b.2.1,r,rfl⟩),oK k b tO rfl (jO rfl) (kL rfl) wO,bI F ((q.way m F).g_meet3_k z N) tO rfl⟩
  by_cases O:(g.lc m).s=9
  ·have J:(aY c m).s=9:=by rw [cl.s,O];rfl
   simp [J] at e;obtain ⟨rfl,rfl,_⟩:=bY e;exact ⟨_,q.g0 I F k tO tO r b A 31 tO ((q.way m F).g_meet9 z O) (.g n k vv rfl) (.inr (.inl ⟨k,rfl,b.2.1,rfl,by unfold iM;omega⟩)),oK k b tO rfl (jO rfl) (kL rfl) wO,bI F ((q.way m F).g_meet9_k z O) tO rfl⟩
  ·have i0:¬ (aY c m).s=0:=by rw [cl.s];omega
   have i3:¬ (aY c m).s=3:=by rw [cl.s];omega
   have i9:¬ (aY c m).s=9:=by rw [cl.s];omega
   simp [i0,i3,i9] at e;obtain ⟨rfl,rfl,_⟩:=bY e;exact ⟨_,q.g0 I F k tO tO r b A 30 tO ((q.way m F).g_meetd z ⟨s0,N,O,X⟩) (M (h:=dC (aD hs i) (aY c' m)) k b rfl) (.inr (.inr ⟨⟨dC (aD hs i) (aY c' m),k,b,rfl⟩,rfl,by unfold iM;omega⟩)),oK k b tO rfl (jO rfl) (kL rfl) wO,bI F ((q.way m F).g_meetd_k z ⟨s0,N,O,X⟩) tO rfl⟩
 | gU0 n m k b F r p z s =>
  simp only [aW,hok,p] at e;simp [iw,s] at e;simp only [kF,s,r] at e;have cl:=q.cell m F;have A:iM (g.lc m).gp:=by rw [z];unfold iM;omega
  have tb:bB c (m:Int) 0 1 0=((aY c m).s == 0):=mV hc F 0 1 _ tO tO;by_cases H:(g.lc m).s=0
  ·have J:(aY c m).s=0:=by rw [cl.s,H];rfl
   have K:bB c (m:Int) 0 1 0=true:=by rw [tb,J];rfl
   simp only [K,if_true] at e;rw [l7 K] at e;obtain ⟨rfl,rfl,_⟩:=bY e;exact ⟨_,q.g1 I F k tO tO r b A 1 0 30 ⟨1,(aY c m).e,0⟩ tO rfl rfl (fun h=>by omega) (fun h=>by omega) ((q.way m F).g_in z H) (M k b rfl) (.inr (.inr ⟨⟨_,k,b,rfl⟩,rfl,by unfold iM;omega⟩)),oK k b tO rfl (jO rfl) (kL rfl) wO,bI F ((q.way m F).g_in_k z H) tO rfl⟩
  ·have J:¬ (aY c m).s=0:=by rw [cl.s];omega
   have K:bB c (m:Int) 0 1 0=false:=by rw [tb];simpa using J
   rw [ku K] at e;simp only [K,Bool.false_eq_true,if_false] at e;obtain ⟨rfl,rfl,_⟩:=bY e;exact ⟨_,q.g0 I F k tO tO r b A 18 tO ((q.way m F).g_lost0 z H) (.gX n m k vv F CK rfl il) (.inl ⟨k,by show (17:Int)≤18;omega,by show (18:Int)≤22;omega,b.2.1,CK,rfl⟩),oK k b tO rfl (jO rfl) (kL rfl) wO,bI F ((q.way m F).g_lost0_k z H) tO rfl⟩
 | gU3 n m k b F r p z s w =>
  simp only [aW,hok,p] at e;simp [iw,s] at e;simp only [kF,s,r] at e;have cl:=q.cell m F;have A:iM (g.lc m).gp:=by rw [z];unfold iM;omega
  have hv:0≤(aD hs i).wait∧(aD hs i).wait≤80:=by
   simp only [aU,sI,Bool.and_eq_true,dK] at V;omega
  have tb:bB c (m:Int) 3 6 (aD hs i).wait=((aY c m).s == 3):=mV hc F 3 6 _ tO tO;by_cases H:(g.lc m).s=3
  ·have J:(aY c m).s=3:=by rw [cl.s,H];rfl
   have K:bB c (m:Int) 3 6 (aD hs i).wait=true:=by rw [tb,J];rfl
   simp only [K,if_true] at e;rw [l7 K] at e;obtain ⟨rfl,rfl,_⟩:=bY e;exact ⟨_,q.g1 I F k tO tO r b A 6 (g.lc m).wt 20 ⟨6,(aY c m).e,(aD hs i).wait⟩ tO rfl rfl (fun _=>w) (fun h=>by have:=((q.way m F).f_s3 H).1;omega) ((q.way m F).g_grow z H) (.gR n m k vv F CK rfl il w) (.inl ⟨k,by show (17:Int)≤20;omega,by show (20:Int)≤22;omega,b.2.1,CK,rfl⟩),oK k b tO rfl (jO rfl) (kL rfl) wO,bI F ((q.way m F).g_grow_k z H) tO rfl⟩
  ·have J:¬ (aY c m).s=3:=by rw [cl.s];omega
   have K:bB c (m:Int) 3 6 (aD hs i).wait=false:=by rw [tb];simpa using J
   rw [ku K] at e;simp only [K,Bool.false_eq_true,if_false] at e;obtain ⟨rfl,rfl,_⟩:=bY e;exact ⟨_,q.g0 I F k tO tO r b A 18 tO ((q.way m F).g_lost3 z H) (.gX n m k vv F CK rfl il) (.inl ⟨k,by show (17:Int)≤18;omega,by show (18:Int)≤22;omega,b.2.1,CK,rfl⟩),oK k b tO rfl (jO rfl) (kL rfl) wO,bI F ((q.way m F).g_lost3_k z H) tO rfl⟩
 | gR n m k b F r p z w =>
  simp only [aW,hok,p] at e;simp [uf,w] at e;have A:iM (g.lc m).gp:=by rw [z];unfold iM;omega
  have Y:=(q.way m F).f_gR z;obtain ⟨w1,w2,w3⟩:=(q.word m F).s Y;have tb:=xn (n:=m) w1 w2 w3 1 tO;by_cases H:(g.lc m).sw=0
  ·have K:eG c (g.sid m) 1=true:=by rw [tb,H];rfl
   simp only [K,if_true] at e;obtain ⟨rfl,rfl,_⟩:=bY e;exact ⟨_,q.g2 I F k tO tO r b A 21 tO Y K ((q.way m F).g_raise z H) (.gk n m k vv F r rfl il) (.inl ⟨k,by show (17:Int)≤21;omega,by show (21:Int)≤22;omega,b.2.1,r,rfl⟩),oK k b tO rfl (jO rfl) (kL rfl) wO,bI F ((q.way m F).g_raise_k z H) tO rfl⟩
  ·have K:eG c (g.sid m) 1=false:=by rw [tb];simpa using H
   rw [uC K] at e;simp only [K,Bool.false_eq_true,if_false] at e;obtain ⟨rfl,rfl,_⟩:=bY e;exact ⟨_,q.g0 I F k tO tO r b A 22 tO ((q.way m F).g_raiseno z H) (.gl n m k vv F r rfl il) (.inl ⟨k,by show (17:Int)≤22;omega,by show (22:Int)≤22;omega,b.2.1,r,rfl⟩),oK k b tO rfl (jO rfl) (kL rfl) wO,bI F ((q.way m F).g_raiseno_k z H) tO rfl⟩
 | gk n m k b F r p z =>
  simp only [aW,hok,p] at e;simp at e;rw [show bZ c (aD hs i).grow 2=setAt c (m:Int) ⟨2,(aY c m).e,(aY c m).t⟩ by rw [r];unfold bZ;rw [gQ rfl]] at e
  obtain ⟨rfl,rfl,_⟩:=bY e;have A:iM (g.lc m).gp:=by rw [z];unfold iM;omega
  have cl:=q.cell m F;exact ⟨_,q.g1 I F k tO tO r b A 2 (g.lc m).wt 30 ⟨2,(aY c m).e,(aY c m).t⟩ tO rfl rfl cl.t1 cl.t2 ((q.way m F).g_keep z) (M k b rfl) (.inr (.inr ⟨⟨_,k,b,rfl⟩,rfl,by unfold iM;omega⟩)),oK k b tO rfl (jO rfl) (kL rfl) wO,bI F ((q.way m F).g_keep_k z) tO rfl⟩
 | gl n m k b F r p z =>
  simp only [aW,hok,p] at e;simp at e;rw [show bZ c (aD hs i).grow 9=setAt c (m:Int) ⟨9,(aY c m).e,(aY c m).t⟩ by rw [r];unfold bZ;rw [gQ rfl]] at e
  obtain ⟨rfl,rfl,_⟩:=bY e;have A:iM (g.lc m).gp:=by rw [z];unfold iM;omega
  have cl:=q.cell m F;exact ⟨_,q.g1 I F k tO tO r b A 9 (g.lc m).wt 31 ⟨9,(aY c m).e,(aY c m).t⟩ tO rfl rfl cl.t1 cl.t2 ((q.way m F).g_lose z) (.g n k vv rfl) (.inr (.inl ⟨k,rfl,b.2.1,rfl,by unfold iM;omega⟩)),oK k b tO rfl (jO rfl) (kL rfl) wO,bI F ((q.way m F).g_lose_k z) tO rfl⟩
 | rest p=>omega
 | s0 k p=>omega
 | r0 k p=>omega
 | sL n G k ce el p z=>omega
 | sK n G k ce el p z=>omega
 | sE n G k ce el p z s=>omega
 | sM0 n G k ce el p z s f1=>omega
 | sM1 n G k ce el p z s f1=>omega
 | sP1 n G k ce el p z s=>omega
 | sP0 n G k ce el p z s f1 f2=>omega
 | sPk n G k ce el p z s f1=>omega
 | sC n G k ce el p z w=>omega
 | sD n G k ce el p z=>omega
 | sW n G k ce el p z w=>omega
 | sm n G k ce el p z=>omega
 | rV n G k ce p z=>omega
 | rS0 n G k ce p z s=>omega
 | rS1 n G k ce p z s=>omega
 | rT00 n G k ce p z s f1=>omega
 | rT01 n G k ce p z s f1=>omega
 | rT10 n G k ce p z s f1=>omega
 | rT11 n G k ce p z s f1=>omega
 | rT2 n G k ce p z s o=>omega
 | rT3 n G k ce p z s o w=>omega
 | rw n G k ce p z o w=>omega
 | rf n G k ce p z o=>omega
 | rl n G k ce p z=>omega
 | rW n G k ce p z w=>omega
 | rF n G k ce p z w=>omega
 | rm n G k ce p z=>omega
theorem Q.park {c c':Ch} {hs:List Ha} {g:Gh} {i:Nat} {h':Ha} (q:Q c hs g) (H:i<hs.length) (R:23≤(aD hs i).pos) (e:bJ c (aD hs i)=(c',h',true)):∃ g',Q c' (hs.set i h') g'∧(∃ ev,Nx g g' (aD hs i) h' ev)∧xP g g' (aD hs i) h':=by
 have O:∀ n,n<40→n<c.cells.length:=fun n F=>by rw [q.len];exact F
 have N:=e;unfold bJ at e;split at e
 case isFalse=>exact (pG e).elim
 case isTrue hok =>
 clear hok;cases q.hand i H with
 | sW n F k ce el p z m =>
  simp [p,j5,m] at e;have A:gJ (g.lc n).sp:=by rw [z];unfold gJ;omega
  obtain ⟨K,G⟩:=(q.way n F).f_sW z;obtain ⟨L,M,I⟩:=(q.word n F).s K;rcases G with G|G|G
  ·rw [I,G] at e
   simp at e
  ·rw [I,G] at e
   simp [k] at e;obtain ⟨rfl,rfl,_⟩:=bY e;exact ⟨_,q.s0 H F k tO tO ce A tO 30 tO ((q.way n F).s_called z G) (.rest rfl) (.inr ⟨by simp [aM],by unfold gJ;omega⟩),qd,bI F ((q.way n F).s_called_k z G) tO rfl⟩
  ·rw [I,G] at e
   simp at e;obtain ⟨rfl,rfl,_⟩:=bY e;exact ⟨_,q.s0 H F k tO tO ce A tO 25 tO ((q.way n F).s_stopped z G) (.sm n F k ce el rfl il) (.inl ⟨k,by show (2:Int)≤25;omega,by show (25:Int)≠16;omega,ce⟩),qd,bI F ((q.way n F).s_stopped_k z G) tO rfl⟩
 | sm n F k ce el p z =>
  simp [p,vE,k] at e;rw [show bZ c (aD hs i).cell 9=setAt c (n:Int) ⟨9,(aY c n).e,(aY c n).t⟩ by rw [ce];unfold bZ;rw [gQ rfl]] at e
  obtain ⟨rfl,rfl,_⟩:=bY e;have A:gJ (g.lc n).sp:=by rw [z];unfold gJ;omega
  have cl:=q.cell n F;exact ⟨_,q.s1 H F k tO tO ce A tO 9 (g.lc n).wt 32 ⟨9,(aY c n).e,(aY c n).t⟩ tO rfl rfl cl.t1 cl.t2 ((q.way n F).s_mark z) (.rest rfl) (.inr ⟨by simp [aM],by unfold gJ;omega⟩),qd,bI F ((q.way n F).s_mark_k z) tO rfl⟩
 | rW n F k ce p z m =>
  simp [p,j5,m,k] at e;have A:gL (g.lc n).rp:=by rw [z];unfold gL;omega
  have J:aR (g.lc n).rp=1:=by rw [z];rfl
  obtain ⟨K,G⟩:=(q.way n F).f_rW z;obtain ⟨L,M,I⟩:=(q.word n F).r K;rcases G with G|G|G
  ·rw [I,G] at e
   simp at e
  ·rw [I,G] at e
   simp at e;obtain ⟨rfl,rfl,_⟩:=bY e;exact ⟨_,q.r0 H F k tO tO ce A 24 tO ((q.way n F).r_called z G) (.rF n F rfl ce rfl il rfl) (.inl ⟨rfl,by show (10:Int)≤24;omega,by show ((24:Int)<16∨22<(24:Int));omega,ce,by rw [J];rfl⟩),(nL A rfl (rc_at k tO ce) nz (.inl ⟨by simp,by simp,by simp [aM,anew,begun,dD,dL,k]⟩)),bI F ((q.way n F).r_called_k z G) tO rfl⟩
  ·rw [I,G] at e
   simp at e;obtain ⟨rfl,rfl,_⟩:=bY e;exact ⟨_,q.r0 H F k tO tO ce A 25 tO ((q.way n F).r_stopped z G) (.rm n F rfl ce rfl il) (.inl ⟨rfl,by show (10:Int)≤25;omega,by show ((25:Int)<16∨22<(25:Int));omega,ce,by rw [J];rfl⟩),(nL A rfl (rc_at k tO ce) nz (.inl ⟨by simp,by simp,by simp [aM,anew,begun,dD,dL,k]⟩)),bI F ((q.way n F).r_stopped_k z G) tO rfl⟩
 | rF n F k ce p z m =>
  simp [p] at e;obtain ⟨rfl,rfl,_⟩:=bY e;have A:gL (g.lc n).rp:=by rw [z];unfold gL;omega
  have J:aR (g.lc n).rp=1:=by rw [z];rfl
  exact ⟨_,q.r0 H F k tO tO ce A 74 tO ((q.way n F).r_fetch z) (.rest rfl) (.inr (.inr ⟨.inl mq,by unfold gL;omega,by rw [J];rfl⟩)),nL A rfl (rc_at k tO ce) nz (.inr (.inr ⟨rfl,iO mq,rfl,rfl,by obtain ⟨a,b⟩:=(q.way n F).f_rF z;show (cellAt c' (aD hs i).cell).e=g.el n;rw [gQ ce];exact (q.cell n F).e a b⟩)),bI F ((q.way n F).r_fetch_k z) tO rfl⟩
 | rm n F k ce p z =>
  simp [p,vE,k] at e;rw [show bZ c (aD hs i).cell 10=setAt c (n:Int) ⟨10,(aY c n).e,(aY c n).t⟩ by rw [ce];unfold bZ;rw [gQ rfl]] at e
  obtain ⟨rfl,rfl,_⟩:=bY e;have A:gL (g.lc n).rp:=by rw [z];unfold gL;omega
  have J:aR (g.lc n).rp=1:=by rw [z];rfl
  have cl:=q.cell n F;exact ⟨_,q.r1 H F k tO tO ce A 10 (g.lc n).wt 72 ⟨10,(aY c n).e,(aY c n).t⟩ tO rfl rfl cl.t1 cl.t2 ((q.way n F).r_mark z) (.rest rfl) (.inr (.inr ⟨.inl mq,by unfold gL;omega,by rw [J];rfl⟩)),(nL A rfl (rc_at k tO ce) nz (.inl ⟨by simp,by simp,by simp [aM,anew,begun,dD,dL,k]⟩)),bI F ((q.way n F).r_mark_k z) tO rfl⟩
 | rest p=>omega
 | s0 k p=>omega
 | r0 k p=>omega
 | sL n F k ce el p z=>omega
 | sK n F k ce el p z=>omega
 | sE n F k ce el p z s=>omega
 | sM0 n F k ce el p z s f1=>omega
 | sM1 n F k ce el p z s f1=>omega
 | sP1 n F k ce el p z s=>omega
 | sP0 n F k ce el p z s f1 f2=>omega
 | sPk n F k ce el p z s f1=>omega
 | sC n F k ce el p z w=>omega
 | sD n F k ce el p z=>omega
 | rV n F k ce p z=>omega
 | rS0 n F k ce p z s=>omega
 | rS1 n F k ce p z s=>omega
 | rT00 n F k ce p z s f1=>omega
 | rT01 n F k ce p z s f1=>omega
 | rT10 n F k ce p z s f1=>omega
 | rT11 n F k ce p z s f1=>omega
 | rT2 n F k ce p z s o=>omega
 | rT3 n F k ce p z s o w=>omega
 | rw n F k ce p z o w=>omega
 | rf n F k ce p z o=>omega
 | rl n F k ce p z=>omega
 | g n k b p=>omega
 | gF n m k b hm r p z=>omega
 | gX n m k b hm r p z=>omega
 | gU0 n m k b hm r p z s=>omega
 | gU3 n m k b hm r p z s w=>omega
 | gR n m k b hm r p z w=>omega
 | gk n m k b hm r p z=>omega
 | gl n m k b hm r p z=>omega
end
section
theorem Q.step {c c':Ch} {hs:List Ha} {g:Gh} {i:Nat} {h':Ha} (q:Q c hs g) (G:i<hs.length) (e:fu c (aD hs i)=(c',h',true)):∃ g',Q c' (hs.set i h') g'∧(∃ ev,Nx g g' (aD hs i) h' ev)∧xP g g' (aD hs i) h':=by
 have ok:∀ {f t k:Int},bC c (aD hs i) f t k=true→aN c=true∧aU (aD hs i)=true∧(k≠0→(aD hs i).code=k):=fun {f t k} h=>by
  simp only [bC,Bool.and_eq_true,Bool.or_eq_true,beq_iff_eq] at h;exact ⟨h.1,h.2.1,fun F=>h.2.2.2.resolve_left F⟩
 unfold fu at e;split at e
 case isTrue h1 =>
  rw [dK] at h1;cases F:bC c (aD hs i) 1 8 1 with
  | false=>simp only [bE,F,Bool.false_eq_true,if_false] at e;exact (pG e).elim
  | true =>
   obtain ⟨a,b,d⟩:=ok F;exact q.send G a b (d tO) h1.2 e
 case isFalse h1 =>
 split at e
 case isTrue h2 =>
  rw [dK] at h2;cases F:bC c (aD hs i) 9 15 2 with
  | false=>simp only [aO,F,Bool.false_eq_true,if_false] at e;exact (pG e).elim
  | true =>
   obtain ⟨a,b,d⟩:=ok F;exact q.recv G a b (d tO) h2 e
 case isFalse h2 =>
 split at e
 case isTrue h3 =>
  rw [dK] at h3;cases F:bC c (aD hs i) 16 22 2 with
  | false=>simp only [aW,F,Bool.false_eq_true,if_false] at e;exact (pG e).elim
  | true =>
   obtain ⟨a,b,d⟩:=ok F;exact q.grow G a b (d tO) h3 e
 case isFalse h3 =>
  cases F:bC c (aD hs i) 23 25 0 with
  | false=>simp only [bJ,F,Bool.false_and,Bool.false_eq_true,if_false] at e;exact (pG e).elim
  | true =>
   have:23≤(aD hs i).pos:=by
    simp only [bC,Bool.and_eq_true,dK] at F;exact F.2.2.1.1
   exact q.park G this e
theorem set_self (hs:List Ha) (i:Nat) (F:i<hs.length):hs.set i (aD hs i)=hs:=by
 apply List.ext_getElem?;intro n;rw [List.getElem?_set];by_cases e:i=n
 ·subst e
  rw [if_pos rfl,if_pos F];unfold aD;rw [List.getD_eq_getElem?_getD,List.getElem?_eq_getElem F];rfl
 ·rw [if_neg e]
theorem Q.stop {c:Ch} {hs:List Ha} {g:Gh} {i:Nat} (q:Q c hs g) (G:i<hs.length) (p:(aD hs i).pos=23):∃ g',Q (cZ c (aD hs i).mine 2) hs g'∧g'.el=g.el∧∀ n,(g'.lc n).sp=(g.lc n).sp∧(g'.lc n).rp=(g.lc n).rp:=by
 cases ht:eG c (aD hs i).mine 2 with
 | false=>rw [uC ht];exact ⟨g,q,rfl,fun _=>⟨rfl,rfl⟩⟩
 | true =>
  have H:=q.hand i G;cases H with
  | sW n hn k ce el p z m =>
   rw [m] at ht ⊢;obtain ⟨F,N⟩:=(q.way n hn).f_sW z;obtain ⟨K,L,M⟩:=(q.word n hn).s F;have tb:=xn (n:=n) K L M 2 tO;rw [ht] at tb;have I:(g.lc n).sw=0:=by
    have:=tb.symm;simpa using this
   have J:In { g.lc n with sw:=2 }:=(q.way n hn).s_stop z I
   have A:gJ (g.lc n).sp:=by rw [z];unfold gJ;omega
   have:=q.moveS (c':=cZ c (g.sid n) 2) (h':=aD hs i) (y:={ g.lc n with sw:=2 }) G hn J k tO tO ce A A.1 rfl rfl (qK c _ _ n) (mG (q.cell n hn) Fp rfl rfl fun _ _=>⟨A.1,by rw [z];omega⟩) (uw (v:=2) q.word q.ids hn F ht tO rfl rfl) ⟨fun h=>absurd h (by show (2:Nat)≠3;omega),fun h=>absurd h F⟩ Iff.rfl (.sW n hn k ce el p (by rw [gu];exact z) m) (.inl ⟨k,by omega,by omega,ce⟩);rw [set_self hs i G] at this
   exact ⟨_,this,rfl,fun m=>⟨jO ja m,kL ja m⟩⟩
  | rW n hn k ce p z m =>
   rw [m] at ht ⊢;obtain ⟨F,N⟩:=(q.way n hn).f_rW z;obtain ⟨K,L,M⟩:=(q.word n hn).r F;have tb:=xn (n:=n) K L M 2 tO;rw [ht] at tb;have I:(g.lc n).rw=0:=by
    have:=tb.symm;simpa using this
   have J:In { g.lc n with rw:=2 }:=(q.way n hn).r_stop z I
   have A:gL (g.lc n).rp:=by rw [z];unfold gL;omega
   have:=q.moveR (c':=cZ c (g.rid n) 2) (h':=aD hs i) (y:={ g.lc n with rw:=2 }) G hn J k tO tO ce A A.1 rfl rfl (qK c _ _ n) (mG (q.cell n hn) Fp rfl rfl fun a b=>⟨a,b⟩) (yL (v:=2) q.word q.ids hn F ht tO rfl rfl) Iff.rfl ⟨fun h=>absurd h (by show (2:Nat)≠3;omega),fun h=>absurd h F⟩ (.rW n hn k ce p (by rw [gu];exact z) m) (.inl ⟨k,by omega,by omega,ce,rfl⟩);rw [set_self hs i G] at this;exact ⟨_,this,rfl,fun m=>⟨jO ja m,kL ja m⟩⟩
  | _=>omega
theorem Q.ask {c:Ch} {hs:List Ha} {g:Gh} {i:Nat} {h':Ha} (q:Q c hs g) (F:i<hs.length) (p:(aD hs i).pos=0) (h:(h'.code=1∧h'.pos=1)∨(h'.code=2∧h'.pos=9)):Q c (hs.set i h') g:=by
 refine q.idle F ?_ (mU tO) (iO tO) tO ?_ ?_ tO
 ·rcases h with h|h
  ·exact .s0 h.1 h.2
  ·exact .r0 h.1 h.2
 ·rcases h with h|h
  ·exact mU tO
  ·exact jg h.1
 ·rcases h with h|h
  ·exact jr h.1
  ·exact iO tO
theorem qM {f:Nat→Nat} {n:Nat} (h:∀ m,m<n→f m=0):jl f n=0:=by
 induction n with
 | zero=>rfl
 | succ n ih=>simp only [jl];rw [ih (fun m F=>h m tO),h n tO]
theorem nM (n i:Nat):(aD (List.replicate n (aM 0 0)) i).pos=0:=by
 unfold aD;rw [List.getD_eq_getElem?_getD,List.getElem?_replicate];split <;> rfl
theorem Q.new (cap n:Nat) (hc:cap≤4):Q ⟨cap,0,0,cap,List.replicate 40 C3.zero,[]⟩ (List.replicate n (aM 0 0)) ⟨fun m=>if m<cap then ⟨0,0,0,0,1,3,3⟩ else ⟨0,0,0,0,0,3,3⟩,fun _=>0,fun _=>0,fun _=>0⟩:=by
 have S:∀ m:Nat,((fun m=>if m<cap then (⟨0,0,0,0,1,3,3⟩:Lc) else ⟨0,0,0,0,0,3,3⟩) m).s=0∧((fun m=>if m<cap then (⟨0,0,0,0,1,3,3⟩:Lc) else ⟨0,0,0,0,0,3,3⟩) m).wt=0∧((fun m=>if m<cap then (⟨0,0,0,0,1,3,3⟩:Lc) else ⟨0,0,0,0,0,3,3⟩) m).sp=0∧((fun m=>if m<cap then (⟨0,0,0,0,1,3,3⟩:Lc) else ⟨0,0,0,0,0,3,3⟩) m).rp=0∧((fun m=>if m<cap then (⟨0,0,0,0,1,3,3⟩:Lc) else ⟨0,0,0,0,0,3,3⟩) m).sw=3∧((fun m=>if m<cap then (⟨0,0,0,0,1,3,3⟩:Lc) else ⟨0,0,0,0,0,3,3⟩) m).rw=3∧(((fun m=>if m<cap then (⟨0,0,0,0,1,3,3⟩:Lc) else ⟨0,0,0,0,0,3,3⟩) m).gp=if m<cap then 1 else 0):=fun m=>by
  by_cases h:m<cap <;> simp [h]
 have N:∀ m,sc (aD (List.replicate n (aM 0 0)) m)=none∧rc (aD (List.replicate n (aM 0 0)) m)=none∧gc (aD (List.replicate n (aM 0 0)) m)=none:=fun m=>by
  have:=nM n m;exact ⟨mU tO,iO tO,kK tO⟩
 refine ⟨by simp,?_,?_,?_,?_,?_,?_,⟨?_,?_,?_⟩,?_,?_,?_,?_,?_,?_,?_,?_,?_⟩
 ·intro m _
  by_cases h:m<cap
  ·simp only [h,if_true];exact Vf
  ·simp only [h,if_false];exact Ve
 ·intro m _
  rw [(S m).2.2.1];show (0:Nat)≠0↔(m:Int)<0;omega
 ·intro m _
  rw [(S m).2.2.2.1];show (0:Nat)≠0↔(m:Int)<0;omega
 ·intro m _
  rw [(S m).2.2.2.2.2.2];show _↔(m:Int)<(cap:Int);split <;> omega
 ·intro m I
  have F:aY ⟨cap,0,0,cap,List.replicate 40 C3.zero,[]⟩ m=C3.zero:=by
   unfold aY;rw [List.getD_eq_getElem?_getD,List.getElem?_replicate,if_pos I];rfl
  refine ⟨?_,?_,?_,?_⟩ <;> rw [F]
  ·rw [(S m).1];rfl
  ·rw [(S m).2.1];intro h;cases h
  ·rw [(S m).2.1];intro h;cases h
  ·rw [(S m).2.2.1];intro h;exact absurd rfl h
 ·intro m _
  refine ⟨?_,?_⟩
  ·rw [(S m).2.2.2.2.1];intro h;exact absurd rfl h
  ·rw [(S m).2.2.2.2.2.1];intro h;exact absurd rfl h
 ·intro a b _ _ _ h;rw [(S a).2.2.2.2.1] at h;exact absurd rfl h
 ·intro a b _ _ _ h;rw [(S a).2.2.2.2.2.1] at h;exact absurd rfl h
 ·intro a b _ _ h;rw [(S a).2.2.2.2.1] at h;exact absurd rfl h
 ·intro i _;exact .rest (nM n i)
 ·intro i j m _ _ _ h;rw [(N i).1] at h;cases h
 ·intro i j m _ _ _ h;rw [(N i).2.1] at h;cases h
 ·intro i j m _ _ _ h;rw [(N i).2.2] at h;cases h
 ·intro m _ h;rw [(S m).2.2.1] at h;exact absurd rfl h.1
 ·intro m _ h;rw [(S m).2.2.2.1] at h;exact absurd rfl h.1
 ·intro m _ h
  rw [(S m).2.2.2.2.2.2] at h;have:=h.1;split at this <;> omega
 ·refine (qM fun m _=>?_).symm
  show wC _=0;unfold wC;rw [(S m).2.2.2.2.1,(S m).2.2.2.2.2.1];rfl
 ·have G:p16 (List.replicate n (aM 0 0))=0:=qM fun m _=>by
   show pc _=0;unfold pc;rw [if_neg (by rw [nM];omega)]
  have H:qJ ⟨fun m=>if m<cap then ⟨0,0,0,0,1,3,3⟩ else ⟨0,0,0,0,0,3,3⟩,fun _=>0,fun _=>0,fun _=>0⟩=0:=qM fun m _=>by
   show aC _=0;unfold aC;rw [(S m).2.2.2.1,(S m).2.2.2.2.2.2];split <;> rfl
  rw [G,H];by_cases h:cap=0
  ·subst h;exact .inl ⟨rfl,rfl⟩
  ·refine .inr ⟨?_,?_,?_⟩
   ·show (0:Int)<(cap:Int);omega
   ·show (cap:Int)+(0:Nat)≤(cap:Int)+(0:Nat);omega
   ·intro _;rfl
end
section
theorem dZ {c:Ch} {h:Ha} (a:aN c=true) (b:aU h=true):(done c h).2.2=true:=by
  unfold done;rw [a,b];rfl
structure CB (c:Ch):Prop where
  cap:0≤c.cap∧c.cap≤4
  sent:0≤c.sent∧c.sent≤40
  got:0≤c.got∧c.got≤40
  fin:0≤c.fin∧c.fin≤40
  len:c.cells.length=40
  wlen:c.words.length≤80
  cells:∀ x,x ∈ c.cells→fw c.words.length x=true
  words:∀ x,x ∈ c.words→0≤x∧x≤2
theorem iT {c:Ch}:aN c=true↔CB c:=by
  constructor
  · intro h
    simp only [aN,fH,Bool.and_eq_true,dK,decide_eq_true_eq,List.all_eq_true] at h;obtain ⟨⟨a,b,d,e,f,g⟩,h1,h2⟩:=h;exact ⟨a,b,d,e,f,g,h1,h2⟩
  · rintro ⟨a,b,d,e,f,g,h1,h2⟩
    simp only [aN,fH,Bool.and_eq_true,dK,decide_eq_true_eq,List.all_eq_true];exact ⟨⟨a,b,d,e,f,g⟩,h1,h2⟩
theorem jm {n:Nat} {x:C3}:fw n x=true↔(0≤x.s∧x.s≤10)∧(0≤x.e∧x.e≤999)∧(0≤x.t∧x.t≤80)∧x.t≤n:=by
  simp only [fw,U9,kN,Bool.and_eq_true,dK,decide_eq_true_eq];constructor
  · rintro ⟨⟨⟨a,b⟩,d⟩,e⟩;exact ⟨a,b,d,e⟩
  · rintro ⟨a,b,d,e⟩;exact ⟨⟨⟨a,b⟩,d⟩,e⟩
theorem CB.at {c:Ch} (q:CB c) (i:Int):fw c.words (cellAt c i)=true:=by
  unfold cellAt;rw [List.getD_eq_getElem?_getD];by_cases h:i.toNat<c.cells.length
  · rw [List.getElem?_eq_getElem h]
    exact q.cells _ (List.getElem_mem h)
  · rw [List.getElem?_eq_none tO]
    rw [jm];simp
theorem CB.set {c:Ch} (q:CB c) (i:Int) {x:C3} (h:fw c.words x=true):CB (setAt c i x):=by
  refine ⟨q.cap,q.sent,q.got,q.fin,?_,q.wlen,?_,q.words⟩
  · show (c.cells.set _ _).length=40
    rw [List.length_set];exact q.len
  · intro y F
    rcases List.mem_or_eq_of_mem_set F with h1|h1
    · exact q.cells y h1
    · rw [h1];exact h
theorem CB.state {c:Ch} (q:CB c) (i F:Int) (h:0≤F∧F≤10):CB (bZ c i F):=by
  refine q.set i ?_;have:=jm.1 (q.at i);exact jm.2 ⟨h,this.2⟩
theorem CB.turn {c:Ch} (q:CB c) (i f t v:Int) (ht:0≤t∧t≤10) (F:0≤v∧v≤c.words.length):CB (bU c i f t v):=by
  cases h:bB c i f t v with
  | false=>rw [ku h];exact q
  | true =>
    refine q.set i ?_;have:=jm.1 (q.at i);have G:=q.wlen;have h2:kP (cellAt c i).s (cellAt c i).e (cellAt c i).t f t v=true:=h;unfold mF oF wV;rw [h2];exact jm.2 ⟨ht,this.2.1,⟨F.1,by show v≤80;omega⟩,F.2⟩
theorem CB.lay {c:Ch} (q:CB c) (i m:Int) (F:0≤m∧m≤999):CB (zi c i m):=by
  refine q.set i ?_;have:=jm.1 (q.at i);refine jm.2 ⟨this.1,?_,this.2.2⟩;show 0≤nS _ _ _ _∧nS _ _ _ _≤999;unfold nS;split
  · exact F
  · exact this.2.1
theorem CB.tell {c:Ch} (q:CB c) (w v:Int):CB (cZ c w v):=by
  cases h:eG c w v with
  | false=>rw [uC h];exact q
  | true =>
    have G:=h;simp only [eG,Bool.and_eq_true,dK] at G;unfold cZ;rw [if_pos h];refine ⟨q.cap,q.sent,q.got,q.fin,q.len,?_,?_,?_⟩
    · show (c.words.set _ _).length≤80
      rw [List.length_set];exact q.wlen
    · intro x F
      show fw (c.words.set _ _).length x=true;rw [List.length_set];exact q.cells x F
    · intro x F
      rcases List.mem_or_eq_of_mem_set F with h1|h1
      · exact q.words x h1
      · rw [h1];omega
theorem CB.push {c:Ch} (q:CB c) (h:c.words.length<80):CB { c with words:=c.words ++ [0] }:=by
  refine ⟨q.cap,q.sent,q.got,q.fin,q.len,?_,?_,?_⟩
  · show (c.words ++ [0]).length≤80
    rw [List.length_append];simp;omega
  · intro x F
    show fw (c.words ++ [0]).length x=true;have:=jm.1 (q.cells x F);rw [jm,List.length_append];refine ⟨this.1,this.2.1,this.2.2.1,?_⟩;have:=this.2.2.2;simp;omega
  · intro x F
    rcases List.mem_append.1 F with h1|h1
    · exact q.words x h1
    · simp at h1;omega
theorem CB.wait {c:Ch} (q:CB c) (h:Ha) (G H el:Int) (hs:0≤G∧G≤10):CB (fA c h G H el).1:=by
  unfold fA;split
  · exact q
  · rename_i I
    split
    · rename_i ht
      have P:=q.push tO;have T:=P.set h.cell (x:=mF (cellAt c h.cell) h.seen G (c.words.length+1)) ?_
      · exact T
      · have F:=jm.1 (q.at h.cell)
        have h2:kP (cellAt c h.cell).s (cellAt c h.cell).e (cellAt c h.cell).t h.seen G (c.words.length+1)=true:=ht;unfold mF oF wV;rw [h2];refine jm.2 ⟨hs,F.2.1,⟨by show (0:Int)≤_+1;omega,by show (_:Int)+1≤80;omega⟩,?_⟩;show (c.words.length:Int)+1≤((c.words ++ [0]).length:Nat);rw [List.length_append];simp
    · rename_i ht
      rw [ku (by simpa using ht)];exact q
structure HB (h:Ha):Prop where
  cell:0≤h.cell∧h.cell≤39
  grow:0≤h.grow∧h.grow≤39
  seen:0≤h.seen∧h.seen≤10
  wait:0≤h.wait∧h.wait≤80
  mine:0≤h.mine∧h.mine≤80
  fin:0≤h.fin∧h.fin≤40
  come:0≤h.come∧h.come≤40
  nxt:0≤h.nxt∧h.nxt≤2
  beg:0≤h.beg∧h.beg≤20000
  reply:0≤h.reply∧h.reply≤4
  out:0≤h.out∧h.out≤999
theorem hb_iff {h:Ha}:aU h=true↔oG h=true∧HB h:=by
  constructor
  · intro k
    simp only [aU,sI,yC,Bool.and_eq_true,dK] at k;obtain ⟨a,⟨b,d,e,f,g⟩,h1,h2,h3,F,G,h6⟩:=k;exact ⟨a,b,d,e,f,g,h1,h2,h3,F,G,h6⟩
  · rintro ⟨a,b,d,e,f,g,h1,h2,h3,F,G,h6⟩
    simp only [aU,sI,yC,Bool.and_eq_true,dK];exact ⟨a,⟨b,d,e,f,g⟩,h1,h2,h3,F,G,h6⟩
theorem xQ {h:Ha} (F:aU h=true) (p:h.pos≠0):eD h.code h.elem=true:=by
  have:=(hb_iff.1 F).1;unfold oG at this;rw [if_neg (by simpa using p)] at this;simp only [Bool.and_eq_true] at this;exact this.2
theorem jV {h h':Ha} (F:aU h=true) (p:h.pos≠0) (G:1≤h'.pos∧h'.pos≤25) (k:h'.code=h.code) (e:h'.elem=h.elem) (B:HB h'):aU h'=true:=by
  refine hb_iff.2 ⟨?_,B⟩;unfold oG
  rw [if_neg (by have:h'.pos≠0:=by omega
                 simpa using this),k,e,xQ F p]
  simp [dV];omega
theorem lN (r o:Int) (hr:0≤r∧r≤4) (F:0≤o∧o≤999):aU (aM r o)=true:=by
  refine hb_iff.2 ⟨rfl,?_⟩;constructor <;> simp [aM] <;> omega
theorem oU {h:Ha} (F:aU h=true) (p:h.pos≠0):aU (anew h)=true:=by
  have B:=(hb_iff.1 F).2;have G:=B.beg;refine jV F p ?_ rfl rfl ?_
  · show 1≤(if h.code == 2 then (9:Int) else 1)∧(if h.code == 2 then (9:Int) else 1)≤25
    split <;> omega
  · constructor <;> simp [anew,begun] <;> omega
theorem pI {h:Ha} (F:aU h=true) (p:h.pos≠0):aU (bF h)=true:=by
  have B:=(hb_iff.1 F).2;unfold bF;split
  · exact lN _ _ tO B.out
  · split
    · exact jV F p (by show (1:Int)≤23∧(23:Int)≤25;omega) rfl rfl ⟨B.cell,B.grow,B.seen,B.wait,B.mine,B.fin,B.come,B.nxt,B.beg,B.reply,B.out⟩
    · exact oU F p
theorem iA {h:Ha} (F:aU h=true) (p:h.pos≠0) (v:Int) (G:1≤v∧v≤25):aU { h with pos:=v }=true:=by
  have B:=(hb_iff.1 F).2;exact jV F p G rfl rfl ⟨B.cell,B.grow,B.seen,B.wait,B.mine,B.fin,B.come,B.nxt,B.beg,B.reply,B.out⟩
theorem oV {h:Ha} (G:aU h=true) (p:h.pos≠0) (v:Int) (H:1≤v∧v≤25) {n:Nat} (J:n≤80) {x:C3} (I:fw n x=true):aU { dC h x with pos:=v }=true:=by
  have B:=(hb_iff.1 G).2;have F:=jm.1 I;exact jV G p H rfl rfl ⟨B.cell,B.grow,F.1,F.2.2.1,B.mine,B.fin,B.come,B.nxt,B.beg,B.reply,B.out⟩
theorem uW {h:Ha} (G:aU h=true) (p:h.pos≠0) (v:Int) (H:1≤v∧v≤25) {n:Nat} (J:n≤80) {x:C3} (I:fw n x=true):aU { dD h x with pos:=v }=true:=by
  have B:=(hb_iff.1 G).2;have F:=jm.1 I;exact jV G p H rfl rfl ⟨B.cell,B.grow,F.1,F.2.2.1,B.mine,B.fin,B.come,B.nxt,B.beg,B.reply,F.2.1⟩
theorem Dm {c:Ch} {h:Ha} (q:CB c) (F:aU h=true) (p:h.pos≠0) (H G el:Int) (h1:1≤G∧G≤25) (h2:1≤el∧el≤25):aU (fA c h H G el).2=true:=by
  have B:=(hb_iff.1 F).2;unfold fA;split
  · exact lN _ _ tO tO
  · rename_i I
    split
    · exact jV F p h1 rfl rfl ⟨B.cell,B.grow,B.seen,B.wait,by show (0:Int)≤_+1∧(_:Int)+1≤80;omega,B.fin,B.come,B.nxt,B.beg,B.reply,B.out⟩
    · exact iA F p _ h2
end
end Go.Proofs.YtffhjmepfojhnaaGreat
