/-
  The program's viewing of a cell, on hands and channels that are kept whole; the lists are the call's own.
-/
import Derived.Test.YtffhjmepfojhnaaGreatS19
import Derived.Test.YtffhjmepfojhnaaGreatS13
import Derived.Test.YtffhjmepfojhnaaGreatS05
import Derived.Test.YtffhjmepfojhnaaGreatS22
import Derived.Test.YtffhjmepfojhnaaGreatS10
set_option maxRecDepth 100000
set_option maxHeartbeats 4000000
set_option linter.unusedSimpArgs false
set_option linter.unusedVariables false
namespace Go.Proofs.YtffhjmepfojhnaaGreat
open _root_.Go.Proofs.Tryz
section
open Go.RowKit
attribute [local simp] aP
attribute [local go_sem ↓] aQ bF aY bY aZ bZ aX bB aN aU
theorem uJ (c:Ch) (h:Ha) (R T:Value) (lo:Nat) (w:World) (h1:aD w lo R c.cells) (V:aG w lo T c.words) (a1:0≤h.cell) (a3:h.cell<c.cells.length) :
    (∀ (K:(cellAt c h.cell).s=0),Calls prog 262 #[.agg (aF c R T),.agg (aB h)] w fun r w'=>dJ w w' lo R T ((c,{ eD h (cellAt c h.cell) with pos:=11 },true)) r) ∧
    (∀ (K:(cellAt c h.cell).s=1),Calls prog 262 #[.agg (aF c R T),.agg (aB h)] w fun r w'=>dJ w w' lo R T ((c,{ eD h (cellAt c h.cell) with pos:=11 },true)) r):=by
  constructor
  case' left =>
    intro K
    have L:Hid (0=0):=rfl
  case' right =>
    intro K
    have M:Hid (0=0):=rfl
  all_goals
    obtain ⟨i,I⟩:∃ i:Nat,h.cell=(i:Int):=⟨h.cell.toNat,by omega⟩
    have hi:i<c.cells.length:=by omega
    have a5:(0:Int)≤(i:Int):=by omega
    have a6:(i:Int)<(c.cells.length:Int):=by omega
    have a8:=h1.ne V
    obtain ⟨U,Y,rfl,_⟩:=V.seg
    obtain ⟨g,X,rfl,a0,a7,q,a4⟩:=h1.open1 hi
    have O1:=aA h1
    have O2:=aA V
    have a9:g<w.heap.size+1:=by omega
    have aa:g<w.heap.size+1+1:=by omega
    have ab:g<w.heap.size+1+1+1:=by omega
    have ag:g≠w.heap.size:=by omega
    have ah:g≠w.heap.size+1:=by omega
    have ai:g≠w.heap.size+1+1:=by omega
    have aj:g≠w.heap.size+1+1+1:=by omega
    have ac:w.heap.size≠g:=by omega
    have ad:w.heap.size+1≠g:=by omega
    have ae:w.heap.size+1+1≠g:=by omega
    have af:w.heap.size+1+1+1≠g:=by omega
    have hx:Hid (cellAt c h.cell=c.cells.getD i ⟨0,0,0⟩):=by simp [cellAt,Hid,I]
    have c0:=q 0 tO
    have Z:=q 1 tO
    have c2:=q 2 tO
    simp only [C3.val,Nat.add_zero] at c0 Z c2
    have ex:=hx.out
    rw [ex] at K ⊢
    generalize c.cells.getD i ⟨0,0,0⟩=x at *
    obtain ⟨s,e,t⟩:=x
    simp only at K c0 Z c2
    subst K
    clear hx ex q h1 V
    have o1:=O1.out
    have o2:=O2.out
    go_enter func262,ntmps262
    first
    | (replace L:=L;go_wp2_with fail;refine aK w zB fun D=>?_;refine (kN h 0 e t _).mono ?_;rintro _ A ⟨rfl,z⟩;obtain ⟨E,G,u⟩:=yL D z (b:=w);(try simp at G);(try simp [go_sem] at u);replace J:=ll u;clear u;have F:=E;clear z D)
    | (replace M:=M;go_wp2_with fail;refine aK w zB fun D=>?_;refine (kN h 1 e t _).mono ?_;rintro _ A ⟨rfl,z⟩;obtain ⟨E,G,u⟩:=yL D z (b:=w);(try simp at G);(first|simp [go_sem,J] at u|simp [go_sem] at u|skip);replace J:=ll u;clear u;have F:=E;clear z D)
    have p1:=own_below o1 F
    have p2:=own_below o2 F
    obtain ⟨k0,k1,k2,k3⟩:=mF (a:=w) (b:=A)
    have k4:w+1+1+1+1<A.heap.size:=by omega
    have j0:w<A.heap.size+1:=by omega
    have j1:w+1<A.heap.size+1:=by omega
    have j2:w+1+1<A.heap.size+1:=by omega
    have j3:w+1+1+1<A.heap.size+1:=by omega
    have j4:w+1+1+1+1<A.heap.size+1:=by omega
    go_wp2_with fail
    first
    | (replace L:=L
       go_region_held3 (fun w'=>hp w' w=some (.cells (aF c (.slice (some ⟨g,0,none⟩) c.cells X) (.slice U c.words Y)) 31)∧hp w' A=some (.cells (aB { h with cell:=(i:Int),seen:=0,wait:=t,out:=e }) 49))
         (first|(simp [*,go_sem]))
         (first|((go_at_call 247;refine aK w zB fun D=>?_;refine aK A zB fun N=>?_;refine (dL _ _ _).mono ?_;rintro _ w2 ⟨rfl,m⟩;have O:=bT D m;have H:=m.size;(try simp at H);have u:=And.intro (hQ m (b:=A)) <| And.intro (hQ m (b:=w+1+1+1)) <| And.intro (hQ m (b:=w+1+1)) <| And.intro (hQ m (b:=w+1)) <| hQ m (b:=w);(first|simp [go_sem,J,k0,k1,k2,k3,k4] at u|simp [go_sem] at u|skip);replace J:=ll u;clear u;have y:=bT N m;clear m D N);have r1:=own_below p1 y;have r2:=own_below p2 y)))
    | (replace M:=M
       go_region_held3 (fun w'=>hp w' w=some (.cells (aF c (.slice (some ⟨g,0,none⟩) c.cells X) (.slice U c.words Y)) 31)∧hp w' A=some (.cells (aB { h with cell:=(i:Int),seen:=1,wait:=t,out:=e }) 49))
         (first|(simp [*,go_sem]))
         (first|((go_at_call 247;refine aK w zB fun D=>?_;refine aK A zB fun N=>?_;refine (dL _ _ _).mono ?_;rintro _ w2 ⟨rfl,m⟩;have O:=bT D m;have H:=m.size;(try simp at H);have u:=And.intro (hQ m (b:=A)) <| And.intro (hQ m (b:=w+1+1+1)) <| And.intro (hQ m (b:=w+1+1)) <| And.intro (hQ m (b:=w+1)) <| hQ m (b:=w);(first|simp [go_sem,J,k0,k1,k2,k3,k4] at u|simp [go_sem] at u|skip);replace J:=ll u;clear u;have y:=bT N m;clear m D N);have r1:=own_below p1 y;have r2:=own_below p2 y)))
    go_wp2
    first
    | (replace L:=L;refine rE results262 rfl (aO c (.slice (some ⟨g,0,none⟩) c.cells X) (.slice U c.words Y) tZ) rfl (aJ { eD h ⟨0,e,t⟩ with pos:=11 } (by simp [go_sem, *] <;> first|rfl|simp [eD,I])) ⟨⟨_,_,rfl,?_,?_,aM _ _,aM _ _⟩,dR zB⟩)
    | (replace M:=M;refine rE results262 rfl (aO c (.slice (some ⟨g,0,none⟩) c.cells X) (.slice U c.words Y) tZ) rfl (aJ { eD h ⟨1,e,t⟩ with pos:=11 } (by simp [go_sem, *] <;> first|rfl|simp [eD,I])) ⟨⟨_,_,rfl,?_,?_,aM _ _,aM _ _⟩,dR zB⟩)
    · exact zO r1 o1
    · exact zO r2 o2
theorem Gd (c:Ch) (h:Ha) (m q:Value) (lo:Nat) (w:World) (h1:aD w lo m c.cells) (z:aG w lo q c.words) (u:0≤h.cell) (y:h.cell<c.cells.length) (A:(cellAt c h.cell).s=0) :
    Calls prog 262 #[.agg (aF c m q),.agg (aB h)] w fun r w'=>dJ w w' lo m q ((c,{ eD h (cellAt c h.cell) with pos:=11 },true)) r:=(uJ c h m q lo w h1 z u y).1 A
theorem Gf (c:Ch) (h:Ha) (m q:Value) (lo:Nat) (w:World) (h1:aD w lo m c.cells) (z:aG w lo q c.words) (u:0≤h.cell) (y:h.cell<c.cells.length) (A:(cellAt c h.cell).s=1) :
    Calls prog 262 #[.agg (aF c m q),.agg (aB h)] w fun r w'=>dJ w w' lo m q ((c,{ eD h (cellAt c h.cell) with pos:=11 },true)) r:=(uJ c h m q lo w h1 z u y).2 A
theorem uK (c:Ch) (h:Ha) (R T:Value) (lo:Nat) (w:World) (h1:aD w lo R c.cells) (V:aG w lo T c.words) (a1:0≤h.cell) (a3:h.cell<c.cells.length) :
    (∀ (K:(cellAt c h.cell).s=2),Calls prog 262 #[.agg (aF c R T),.agg (aB h)] w fun r w'=>dJ w w' lo R T ((c,{ eD h (cellAt c h.cell) with pos:=12 },true)) r) ∧
    (∀ (K:(cellAt c h.cell).s=3),Calls prog 262 #[.agg (aF c R T),.agg (aB h)] w fun r w'=>dJ w w' lo R T ((c,{ eD h (cellAt c h.cell) with pos:=12 },true)) r):=by
  constructor
  case' left =>
    intro K
    have L:Hid (0=0):=rfl
  case' right =>
    intro K
    have M:Hid (0=0):=rfl
  all_goals
    obtain ⟨i,I⟩:∃ i:Nat,h.cell=(i:Int):=⟨h.cell.toNat,by omega⟩
    have hi:i<c.cells.length:=by omega
    have a5:(0:Int)≤(i:Int):=by omega
    have a6:(i:Int)<(c.cells.length:Int):=by omega
    have a8:=h1.ne V
    obtain ⟨U,Y,rfl,_⟩:=V.seg
    obtain ⟨g,X,rfl,a0,a7,q,a4⟩:=h1.open1 hi
    have O1:=aA h1
    have O2:=aA V
    have a9:g<w.heap.size+1:=by omega
    have aa:g<w.heap.size+1+1:=by omega
    have ab:g<w.heap.size+1+1+1:=by omega
    have ag:g≠w.heap.size:=by omega
    have ah:g≠w.heap.size+1:=by omega
    have ai:g≠w.heap.size+1+1:=by omega
    have aj:g≠w.heap.size+1+1+1:=by omega
    have ac:w.heap.size≠g:=by omega
    have ad:w.heap.size+1≠g:=by omega
    have ae:w.heap.size+1+1≠g:=by omega
    have af:w.heap.size+1+1+1≠g:=by omega
    have hx:Hid (cellAt c h.cell=c.cells.getD i ⟨0,0,0⟩):=by simp [cellAt,Hid,I]
    have c0:=q 0 tO
    have Z:=q 1 tO
    have c2:=q 2 tO
    simp only [C3.val,Nat.add_zero] at c0 Z c2
    have ex:=hx.out
    rw [ex] at K ⊢
    generalize c.cells.getD i ⟨0,0,0⟩=x at *
    obtain ⟨s,e,t⟩:=x
    simp only at K c0 Z c2
    subst K
    clear hx ex q h1 V
    have o1:=O1.out
    have o2:=O2.out
    go_enter func262,ntmps262
    first
    | (replace L:=L;go_wp2_with fail;refine aK w zB fun D=>?_;refine (kN h 2 e t _).mono ?_;rintro _ A ⟨rfl,z⟩;obtain ⟨E,G,u⟩:=yL D z (b:=w);(try simp at G);(try simp [go_sem] at u);replace J:=ll u;clear u;have F:=E;clear z D)
    | (replace M:=M;go_wp2_with fail;refine aK w zB fun D=>?_;refine (kN h 3 e t _).mono ?_;rintro _ A ⟨rfl,z⟩;obtain ⟨E,G,u⟩:=yL D z (b:=w);(try simp at G);(first|simp [go_sem,J] at u|simp [go_sem] at u|skip);replace J:=ll u;clear u;have F:=E;clear z D)
    have p1:=own_below o1 F
    have p2:=own_below o2 F
    obtain ⟨k0,k1,k2,k3⟩:=mF (a:=w) (b:=A)
    have k4:w+1+1+1+1<A.heap.size:=by omega
    have j0:w<A.heap.size+1:=by omega
    have j1:w+1<A.heap.size+1:=by omega
    have j2:w+1+1<A.heap.size+1:=by omega
    have j3:w+1+1+1<A.heap.size+1:=by omega
    have j4:w+1+1+1+1<A.heap.size+1:=by omega
    go_wp2_with fail
    first
    | (replace L:=L
       go_region_held3 (fun w'=>hp w' w=some (.cells (aF c (.slice (some ⟨g,0,none⟩) c.cells X) (.slice U c.words Y)) 31)∧hp w' A=some (.cells (aB { h with cell:=(i:Int),seen:=2,wait:=t,out:=e }) 49))
         (first|(simp [*,go_sem]))
         (first|((go_at_call 247;refine aK w zB fun D=>?_;refine aK A zB fun N=>?_;refine (dL _ _ _).mono ?_;rintro _ w2 ⟨rfl,m⟩;have O:=bT D m;have H:=m.size;(try simp at H);have u:=And.intro (hQ m (b:=A)) <| And.intro (hQ m (b:=w+1+1+1)) <| And.intro (hQ m (b:=w+1+1)) <| And.intro (hQ m (b:=w+1)) <| hQ m (b:=w);(first|simp [go_sem,J,k0,k1,k2,k3,k4] at u|simp [go_sem] at u|skip);replace J:=ll u;clear u;have y:=bT N m;clear m D N);have r1:=own_below p1 y;have r2:=own_below p2 y)))
    | (replace M:=M
       go_region_held3 (fun w'=>hp w' w=some (.cells (aF c (.slice (some ⟨g,0,none⟩) c.cells X) (.slice U c.words Y)) 31)∧hp w' A=some (.cells (aB { h with cell:=(i:Int),seen:=3,wait:=t,out:=e }) 49))
         (first|(simp [*,go_sem]))
         (first|((go_at_call 247;refine aK w zB fun D=>?_;refine aK A zB fun N=>?_;refine (dL _ _ _).mono ?_;rintro _ w2 ⟨rfl,m⟩;have O:=bT D m;have H:=m.size;(try simp at H);have u:=And.intro (hQ m (b:=A)) <| And.intro (hQ m (b:=w+1+1+1)) <| And.intro (hQ m (b:=w+1+1)) <| And.intro (hQ m (b:=w+1)) <| hQ m (b:=w);(first|simp [go_sem,J,k0,k1,k2,k3,k4] at u|simp [go_sem] at u|skip);replace J:=ll u;clear u;have y:=bT N m;clear m D N);have r1:=own_below p1 y;have r2:=own_below p2 y)))
    go_wp2
    first
    | (replace L:=L;refine rE results262 rfl (aO c (.slice (some ⟨g,0,none⟩) c.cells X) (.slice U c.words Y) tZ) rfl (aJ { eD h ⟨2,e,t⟩ with pos:=12 } (by simp [go_sem, *] <;> first|rfl|simp [eD,I])) ⟨⟨_,_,rfl,?_,?_,aM _ _,aM _ _⟩,dR zB⟩)
    | (replace M:=M;refine rE results262 rfl (aO c (.slice (some ⟨g,0,none⟩) c.cells X) (.slice U c.words Y) tZ) rfl (aJ { eD h ⟨3,e,t⟩ with pos:=12 } (by simp [go_sem, *] <;> first|rfl|simp [eD,I])) ⟨⟨_,_,rfl,?_,?_,aM _ _,aM _ _⟩,dR zB⟩)
    · exact zO r1 o1
    · exact zO r2 o2
theorem Gg (c:Ch) (h:Ha) (m q:Value) (lo:Nat) (w:World) (h1:aD w lo m c.cells) (z:aG w lo q c.words) (u:0≤h.cell) (y:h.cell<c.cells.length) (A:(cellAt c h.cell).s=2) :
    Calls prog 262 #[.agg (aF c m q),.agg (aB h)] w fun r w'=>dJ w w' lo m q ((c,{ eD h (cellAt c h.cell) with pos:=12 },true)) r:=(uK c h m q lo w h1 z u y).1 A
theorem Gh (c:Ch) (h:Ha) (m q:Value) (lo:Nat) (w:World) (h1:aD w lo m c.cells) (z:aG w lo q c.words) (u:0≤h.cell) (y:h.cell<c.cells.length) (A:(cellAt c h.cell).s=3) :
    Calls prog 262 #[.agg (aF c m q),.agg (aB h)] w fun r w'=>dJ w w' lo m q ((c,{ eD h (cellAt c h.cell) with pos:=12 },true)) r:=(uK c h m q lo w h1 z u y).2 A
theorem Gi (c:Ch) (h:Ha) (v1 v2:Value) (lo:Nat) (w:World) (h1:aD w lo v1 c.cells) (J:aG w lo v2 c.words) (a0:0≤h.cell) (a1:h.cell<c.cells.length) (K:(cellAt c h.cell).s=9) (X:eB h.code h.elem=true) :
    dG 262 c h v1 v2 lo w ((c,anew h,true)):=by
  obtain ⟨i,G⟩:∃ i:Nat,h.cell=(i:Int):=⟨h.cell.toNat,by omega⟩
  have hi:i<c.cells.length:=by omega
  have a4:(0:Int)≤(i:Int):=by omega
  have a5:(i:Int)<(c.cells.length:Int):=by omega
  have a7:=h1.ne J
  obtain ⟨N,q2,rfl,_⟩:=J.seg
  obtain ⟨g,q1,rfl,Y,a6,q,a3⟩:=h1.open1 hi
  have O1:=aA h1
  have O2:=aA J
  have a8:g<w.heap.size+1:=by omega
  have a9:g<w.heap.size+1+1:=by omega
  have aa:g<w.heap.size+1+1+1:=by omega
  have af:g≠w.heap.size:=by omega
  have ag:g≠w.heap.size+1:=by omega
  have ah:g≠w.heap.size+1+1:=by omega
  have ai:g≠w.heap.size+1+1+1:=by omega
  have ab:w.heap.size≠g:=by omega
  have ac:w.heap.size+1≠g:=by omega
  have ad:w.heap.size+1+1≠g:=by omega
  have ae:w.heap.size+1+1+1≠g:=by omega
  have Z:Hid (cellAt c h.cell=c.cells.getD i ⟨0,0,0⟩):=by simp [cellAt,Hid,G]
  have c0:=q 0 tO
  have T:=q 1 tO
  have c2:=q 2 tO
  simp only [C3.val,Nat.add_zero] at c0 T c2
  have U:=Z.out
  rw [U] at K
  generalize c.cells.getD i ⟨0,0,0⟩=x at *
  obtain ⟨s,e,t⟩:=x
  simp only at K c0 T c2
  subst K
  clear Z U q h1 J
  obtain ⟨L,D⟩:∃ L,anew h=L:=⟨_,rfl⟩
  have M:=aA fun W=>pX h X W
  rw [D] at M
  rw [D]
  clear D X
  have o1:=O1.out
  have o2:=O2.out
  go_enter func262,ntmps262
  go_wp2_with fail;refine aK w zB fun E=>?_;refine (kN h 9 e t _).mono ?_;rintro _ r ⟨rfl,z⟩;obtain ⟨F,H,A⟩:=yL E z (b:=w);(try simp at H);(try simp [go_sem] at A);replace O:=ll A;clear A;have u:=F;clear z E
  have p1:=own_below o1 u
  have p2:=own_below o2 u
  obtain ⟨k0,k1,k2,k3⟩:=mF (a:=w) (b:=r)
  have k4:w+1+1+1+1<r.heap.size:=by omega
  have j0:w<r.heap.size+1:=by omega
  have j1:w+1<r.heap.size+1:=by omega
  have j2:w+1+1<r.heap.size+1:=by omega
  have j3:w+1+1+1<r.heap.size+1:=by omega
  have j4:w+1+1+1+1<r.heap.size+1:=by omega
  go_wp2_with fail
  go_region_held3 (fun w'=>hp w' w=some (.cells (aF c (.slice (some ⟨g,0,none⟩) c.cells q1) (.slice N c.words q2)) 31)∧hp w' (w+1)=some (.cells (aB h) 49))
    (first|(simp [*,go_sem]))
    (first|((go_at_call 250;refine aK w zB fun E=>?_;refine aK r zB fun R=>?_;refine (M.out _).mono ?_;rintro _ w2 ⟨rfl,m⟩;have V:=bT E m;have I:=m.size;(try simp at I);have A:=And.intro (hQ m (b:=r)) <| And.intro (hQ m (b:=w+1+1+1)) <| And.intro (hQ m (b:=w+1+1)) <| And.intro (hQ m (b:=w+1)) <| hQ m (b:=w);(first|simp [go_sem,O,k0,k1,k2,k3,k4] at A|simp [go_sem] at A|skip);replace O:=ll A;clear A;have y:=bT R m;clear m E R);have r1:=own_below p1 y;have r2:=own_below p2 y))
  go_wp2
  refine rE results262 rfl (aO c (.slice (some ⟨g,0,none⟩) c.cells q1) (.slice N c.words q2) tZ) rfl (aJ L (by simp [go_sem, *] <;> first|rfl|simp [eD,G])) ⟨⟨_,_,rfl,?_,?_,aM _ _,aM _ _⟩,dR zB⟩
  · exact zO r1 o1
  · exact zO r2 o2
theorem Gj (c:Ch) (h:Ha) (N O:Value) (lo:Nat) (w:World) (h1:aD w lo N c.cells) (D:aG w lo O c.words) (V:0≤h.cell) (X:h.cell<c.cells.length) (E:(cellAt c h.cell).s=6) :
    dG 262 c h N O lo w ((c,h,false)):=by
  obtain ⟨i,z⟩:∃ i:Nat,h.cell=(i:Int):=⟨h.cell.toNat,by omega⟩
  have Z:i<c.cells.length:=by omega
  have a0:(0:Int)≤(i:Int):=by omega
  have a1:(i:Int)<(c.cells.length:Int):=by omega
  have a4:=h1.ne D
  obtain ⟨U,q2,rfl,_⟩:=D.seg
  obtain ⟨g,q1,rfl,J,a3,m,Y⟩:=h1.open1 Z
  have R:=aA h1
  have T:=aA D
  have a5:g<w.heap.size+1:=by omega
  have a6:g<w.heap.size+1+1:=by omega
  have a7:g<w.heap.size+1+1+1:=by omega
  have ac:g≠w.heap.size:=by omega
  have ad:g≠w.heap.size+1:=by omega
  have ae:g≠w.heap.size+1+1:=by omega
  have af:g≠w.heap.size+1+1+1:=by omega
  have a8:w.heap.size≠g:=by omega
  have a9:w.heap.size+1≠g:=by omega
  have aa:w.heap.size+1+1≠g:=by omega
  have ab:w.heap.size+1+1+1≠g:=by omega
  have K:Hid (cellAt c h.cell=c.cells.getD i ⟨0,0,0⟩):=by simp [cellAt,Hid,z]
  have c0:=m 0 tO
  have H:=m 1 tO
  have c2:=m 2 tO
  simp only [C3.val,Nat.add_zero] at c0 H c2
  have I:=K.out
  rw [I] at E
  generalize c.cells.getD i ⟨0,0,0⟩=x at *
  obtain ⟨s,e,t⟩:=x
  simp only at E c0 H c2
  subst E
  clear K I m h1 D
  have L:=R.out
  have M:=T.out
  go_enter func262,ntmps262
  go_wp2_with fail;refine aK w zB fun G=>?_;refine (kN h 6 e t _).mono ?_;rintro _ u ⟨rfl,r⟩;obtain ⟨y,A,F⟩:=yL G r (b:=w);(try simp at A);(try simp [go_sem] at F);replace bX:=ll F;clear F;have q:=y;clear r G
  have p1:=own_below L q
  have p2:=own_below M q
  obtain ⟨k0,k1,k2,k3⟩:=mF (a:=w) (b:=u)
  have k4:w+1+1+1+1<u.heap.size:=by omega
  have j0:w<u.heap.size+1:=by omega
  have j1:w+1<u.heap.size+1:=by omega
  have j2:w+1+1<u.heap.size+1:=by omega
  have j3:w+1+1+1<u.heap.size+1:=by omega
  have j4:w+1+1+1+1<u.heap.size+1:=by omega
  have r1:=p1
  have r2:=p2
  go_wp2_with fail
  go_region
  go_wp2
  refine rE results262 rfl (aO c (.slice (some ⟨g,0,none⟩) c.cells q1) (.slice U c.words q2) tZ) rfl (aJ h (by simp [go_sem, *] <;> first|rfl|simp [eD,z])) ⟨⟨_,_,rfl,?_,?_,aM _ _,aM _ _⟩,dR zB⟩
  · exact zO r1 L
  · exact zO r2 M
theorem DF (c:Ch) (h:Ha) (V X:Value) (lo:Nat) (w:World) (h1:aD w lo V c.cells) (E:aG w lo X c.words) (O:0≤h.cell) (R:h.cell<c.cells.length) (n0:((cellAt c h.cell).s == 0)=false) (n1:((cellAt c h.cell).s == 1)=false) (n2:((cellAt c h.cell).s == 2)=false) (n3:((cellAt c h.cell).s == 3)=false) (n9:((cellAt c h.cell).s == 9)=false) (n6:((cellAt c h.cell).s == 6)=false) :
    dG 262 c h V X lo w (nothing):=by
  have Z:=kY h1
  have b2:=kY E
  have T:=aA fun W=>gV W lo V X
  obtain ⟨i,U⟩:∃ i:Nat,h.cell=(i:Int):=⟨h.cell.toNat,by omega⟩
  have hi:i<c.cells.length:=by omega
  have a5:(0:Int)≤(i:Int):=by omega
  have a6:(i:Int)<(c.cells.length:Int):=by omega
  have a8:=h1.ne E
  obtain ⟨Y,q2,rfl,_⟩:=E.seg
  obtain ⟨g,q1,rfl,a1,a7,m,a4⟩:=h1.open1 hi
  have O1:=aA h1
  have O2:=aA E
  have a9:g<w.heap.size+1:=by omega
  have aa:g<w.heap.size+1+1:=by omega
  have ab:g<w.heap.size+1+1+1:=by omega
  have ao:g≠w.heap.size:=by omega
  have ap:g≠w.heap.size+1:=by omega
  have aq:g≠w.heap.size+1+1:=by omega
  have ar:g≠w.heap.size+1+1+1:=by omega
  have ak:w.heap.size≠g:=by omega
  have al:w.heap.size+1≠g:=by omega
  have am:w.heap.size+1+1≠g:=by omega
  have an:w.heap.size+1+1+1≠g:=by omega
  have hx:Hid (cellAt c h.cell=c.cells.getD i ⟨0,0,0⟩):=by simp [cellAt,Hid,U]
  have c0:=m 0 tO
  have c1:=m 1 tO
  have c2:=m 2 tO
  simp only [C3.val,Nat.add_zero] at c0 c1 c2
  have I:∀ j,w.heap.size≤j→some j≠(Value.slice (some ⟨g,0,none⟩) c.cells q1).ownBlock:=fun j hj e=>by have:=Z _ e.symm;omega
  have J:∀ j,w.heap.size≤j→some j≠(Value.slice Y c.words q2).ownBlock:=fun j hj e=>by have:=b2 _ e.symm;omega
  have ac:=I (w.heap.size) tO
  have ag:=J (w.heap.size) tO
  have ad:=I (w+1) tO
  have ah:=J (w+1) tO
  have ae:=I (w+1+1) tO
  have ai:=J (w+1+1) tO
  have af:=I (w+1+1+1) tO
  have aj:=J (w+1+1+1) tO
  have ex:=hx.out
  rw [ex] at n0 n1 n2 n3 n9 n6
  generalize c.cells.getD i ⟨0,0,0⟩=x0 at *
  obtain ⟨ss,e,t⟩:=x0
  simp only at n0 n1 n2 n3 n9 n6 c0 c1 c2
  generalize nothing=x at *
  clear m hx h1 E O R ex
  have o1:=O1.out
  have o2:=O2.out
  go_enter func262,ntmps262
  go_wp2_with fail;refine aK w zB fun bb=>?_;refine (kN h ss e t _).mono ?_;rintro _ w1 ⟨rfl,r⟩;obtain ⟨F,G,u⟩:=yL bb r (b:=w);(try simp at G);(try simp [go_sem] at u);replace bX:=ll u;clear u;have a0:=F;clear r bb
  go_wp2_with fail
  refine (T.out _).mono ?_
  rintro _ w3 ⟨⟨y1,y2,rfl,A,D,K,L⟩,q⟩
  have a3:jI (Value.slice (some ⟨g,0,none⟩) c.cells q1).ownBlock (Value.slice Y c.words q2).ownBlock w w3:=gU (dR zB) (dR q)
  have H:=q.size;(try simp at H);have u:=BL q (b:=w);(first|simp [go_sem,bX] at u|simp [go_sem] at u|skip);replace bX:=dW u;clear u q
  obtain ⟨⟨y,z⟩,M,N⟩:=sO (w:=w) (w+1+1+1+1) K L Z b2;obtain ⟨ya,yp,rfl,_⟩:=A.seg;obtain ⟨yb,yq,rfl,_⟩:=D.seg
  go_wp2
  refine rE results262 rfl (aO x.1 (.slice ya x.1.cells yp) (.slice yb x.1.words yq) tY) rfl (aJ x.2.1 tY) ⟨⟨_,_,rfl,?_,?_,M,N⟩,by exact zN⟩
  · exact zP A A y
  · exact zP D D z
end
section
open Go.RowKit
theorem Gl (x:Wo):bC x=(((aW x.ch && dA x.now 0 20000) && oL x.hands x.now) && rF x.deals x.hands x.now):=by
 unfold bC ik oL rF
 cases aW x.ch <;> cases dA x.now 0 20000 <;> cases decide (1≤x.hands.length) <;> cases decide (x.hands.length≤6) <;> cases decide (x.deals.length≤1000) <;> simp
theorem fU (x:Wo) (a b d e:Option Addr) (p q r s:Nat) (w:World) (h:ic w w x a b d e) (m:jk x) :
  Calls prog 49 #[kZ x a b d e p q r s] w fun r w'=>r=.returned (.bool (bC x))∧Below w w w':=by
 rw [Gl]
 obtain ⟨h1,J,K,L⟩:=h
 obtain ⟨m1,m2,m3,m4⟩:=m
 have R:=aA h1
 have T:=aA J
 have U:=aA K
 have V:=aA L
 have X:x.ch.cells.length≤maxLen:=by unfold maxLen;omega
 have Y:x.ch.words.length≤maxLen:=by unfold maxLen;omega
 have I:x.hands.length≤1099511627776:=by omega
 have Z:x.deals.length≤1099511627776:=by omega
 clear h1 J K L m1 m2 m3 m4
 go_enter func49,ntmps49
 go_wp2_with (first
  | (go_at_call 98;refine aK w zB fun D=>?_;refine (jo x.ch a b p q _ (aT R D) (aT T D) X Y).mono ?_;rintro _ w1 ⟨rfl,u⟩;have M:=bT D u;have E:=u.size;(try simp at E);have A:=oZ u (b:=w);(try simp [go_sem] at A);replace H:=A;clear A u D)
  | (go_at_call 45;refine (eO _ _ _).mono ?_;rintro _ _ ⟨rfl,rfl⟩)
  | (go_at_call 99;refine aK w zB fun D=>?_;refine (CU x.hands x.now w d r _ (by simp [*]) (by simp [*]) tS (aT U D) I).mono ?_;rintro _ w2 ⟨rfl,y⟩;have N:=bT D y;have F:=y.size;(try simp at F);have A:=oZ y (b:=w);(first|simp [go_sem,H] at A|simp [go_sem] at A|skip);replace H:=A;clear A y D)
  | (go_at_call 100;refine aK w zB fun D=>?_;refine (CV x.deals x.hands x.now w d e r s _ (by simp [*]) (by simp [*]) (by simp [*]) tS (aT V D) Z I).mono ?_;rintro _ w3 ⟨rfl,z⟩;have O:=bT D z;have G:=z.size;(try simp at G);have A:=oZ z (b:=w);(first|simp [go_sem,H] at A|simp [go_sem] at A|skip);replace H:=A;clear A z D))
 all_goals go_ret
 all_goals exact ⟨dB (by simp [*]),by exact zB⟩
end
section
open Go.RowKit
theorem Pj:(Tryz.prog.info? 129).map (fun i=>(i.zero,i.size,i.bytes))=some (some (.agg (Array.replicate 120 (.int .i64 0))),120,960):=by kernel_rfl
theorem Pk (w:World):(zeroValue 129).run prog w=.ok (.agg (Array.replicate 120 (.int .i64 0))) w:=by
 obtain ⟨i,m,q,_⟩:=info_parts Pj
 have e:Tryz.prog.info? 129=some Tryz.t129:=by kernel_rfl
 obtain rfl:Tryz.t129=i:=by rw [e] at m;exact Option.some.inj m
 simp [zeroValue,go_sem,q]
theorem Gm (n i j:Nat):iq (List.replicate n C3.zero) i j=.int .i64 0:=by
 have e:(List.replicate n C3.zero).getD i ⟨0,0,0⟩=⟨0,0,0⟩:=by
  unfold List.getD;rw [List.getElem?_replicate];split <;> rfl
 unfold iq
 rw [e]
 match j with
 | 0=>rfl
 | 1=>rfl
 | n+2=>rfl
theorem JV (w:World) (g:Nat) (h:g=w.heap.size):Lie (w.alloc (.cells (Array.replicate 120 (.int .i64 0)) 129)) g 40 3 (iq (List.replicate 40 C3.zero)):=by
 subst h
 refine ⟨_,_,heap_alloc_new w _,by simp,fun i j m q=>?_⟩
 rw [Gm,Array.getElem?_replicate,if_pos tO]
theorem DJ (cap:Int) (w:World):Calls prog 46 #[.int .i64 cap] w fun r w' =>
  (∃ u m,r=.returned (.agg #[.int .i64 (dK cap).cap,.int .i64 (dK cap).sent,.int .i64 (dK cap).got,.int .i64 (dK cap).fin,u,m])∧PL w' w u (dK cap).cells∧Qk w' w m (dK cap).words∧m.ownBlock=none)∧Below w w w':=by
 by_cases h:dA cap 0 4=true
 ·have e:dK cap=⟨cap,0,0,cap,List.replicate 40 C3.zero,[]⟩:=by simp [dK,h]
  rw [e]
  have A:=Pk
  have q:Hid (∀ (W:World) (g lo n:Nat),g=W.heap.size→lo≤W.heap.size→n=40→PL (W.alloc (.cells (Array.replicate 120 (.int .i64 0)) 129)) lo (.slice (some ⟨g,0,none⟩) n n) (List.replicate 40 C3.zero)):=fun W g lo n y h z=>by
   subst z
   exact .inr ⟨g,40,by simp,by omega,by simpa using JV W g y⟩
  generalize Array.replicate 120 (Value.int .i64 0)=D at A q
  go_enter func46,ntmps46
  go_wp2_with (first|(go_at_call 45;refine (eO _ _ _).mono ?_;rintro _ _ ⟨rfl,rfl⟩)|(go_at_call 96;refine (Lh 40 tO _ _).mono ?_;rintro _ _ ⟨rfl,rfl⟩))
  refine bodyPost_ret (v:=.agg #[.int .i64 cap,.int .i64 0,.int .i64 0,.int .i64 cap,.slice (some ⟨w+1,0,none⟩) 40 40,.slice none 0 0]) (by simp [results,results46,go_sem, *]) rfl ⟨⟨_,_,rfl,q.out _ _ _ _ (by simp) (by simp) rfl,.inl ⟨rfl,rfl⟩,rfl⟩,?_⟩
  exact zB
 ·have e:dK cap=Ch.zero:=by simp [dK,h]
  rw [e]
  go_enter func46,ntmps46
  go_wp2_with (go_at_call 45;refine (eO _ _ _).mono ?_;rintro _ _ ⟨rfl,rfl⟩)
  refine bodyPost_ret (v:=.agg #[.int .i64 0,.int .i64 0,.int .i64 0,.int .i64 0,.slice none 0 0,.slice none 0 0]) (by simp [results,results46,go_sem, *]) rfl ⟨⟨_,_,rfl,.inl ⟨rfl,rfl⟩,.inl ⟨rfl,rfl⟩,rfl⟩,?_⟩
  exact zB
end
end Go.Proofs.YtffhjmepfojhnaaGreat
