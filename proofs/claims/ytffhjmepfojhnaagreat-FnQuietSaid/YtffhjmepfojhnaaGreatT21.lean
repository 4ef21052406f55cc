/-
  The program's viewing of a cell, on hands and channels that are kept whole; the lists are the call's own.
-/
import Derived.Test.YtffhjmepfojhnaaGreatT17
import Derived.Test.YtffhjmepfojhnaaGreatT03
import Derived.Test.YtffhjmepfojhnaaGreatT13
import Derived.Test.YtffhjmepfojhnaaGreatT04
set_option maxRecDepth 100000
set_option maxHeartbeats 2000000
set_option linter.unusedSimpArgs false
set_option linter.unusedVariables false
namespace Go.Proofs.YtffhjmepfojhnaaGreat
open _root_.Go.Proofs.Tryz
section
open Go.RowKit
attribute [local simp] dz
attribute [local go_sem ↓] dA fU dO gW dP gY dW fE bK eO
theorem yN (c:Ch) (h:Ha) (v1 v2:Value) (lo:Nat) (w:World) (h1:aF w lo v1 c.cells) (h2:aI w lo v2 c.words) (a3:0≤h.cell) (a4:h.cell<c.cells.length) :
    (∀ (V:(cellAt c h.cell).s=0),Calls prog 262 #[.agg (aH c v1 v2),.agg (aB h)] w fun r w'=>eB w w' lo v1 v2 ((c,{ dD h (cellAt c h.cell) with pos:=11 },true)) r) ∧
    (∀ (V:(cellAt c h.cell).s=1),Calls prog 262 #[.agg (aH c v1 v2),.agg (aB h)] w fun r w'=>eB w w' lo v1 v2 ((c,{ dD h (cellAt c h.cell) with pos:=11 },true)) r):=by
  constructor
  case' left =>
    intro V;have X:Hid (0=0):=rfl
  case' right =>
    intro V;have Y:Hid (0=0):=rfl
  all_goals
    obtain ⟨i,T⟩:∃ i:Nat,h.cell=(i:Int):=⟨h.cell.toNat,by omega⟩;have hi:i<c.cells.length:=tO;have a6:(0:Int)≤(i:Int):=tO;have a7:(i:Int)<(c.cells.length:Int):=tO;have a9:=h1.ne h2;obtain ⟨a2,q2,rfl,_⟩:=h2.seg;obtain ⟨g,q1,rfl,a1,a8,G,a5⟩:=h1.open1 hi;have O1:=aA h1;have O2:=aA h2;have aa:g<w.heap.size+1:=tO;have ab:g<w.heap.size+1+1:=tO;have ac:g<w.heap.size+1+1+1:=tO;have ah:g≠w.heap.size:=tO;have ai:g≠w.heap.size+1:=tO
    have aj:g≠w.heap.size+1+1:=tO;have ak:g≠w.heap.size+1+1+1:=tO;have ad:w.heap.size≠g:=tO;have ae:w.heap.size+1≠g:=tO;have af:w.heap.size+1+1≠g:=tO;have ag:w.heap.size+1+1+1≠g:=tO;have hx:Hid (cellAt c h.cell=c.cells.getD i ⟨0,0,0⟩):=by simp [cellAt,Hid,T]
    have c0:=G 0 tO;have c1:=G 1 tO;have c2:=G 2 tO;simp only [C3.val,Nat.add_zero] at c0 c1 c2;have ex:=hx.out;rw [ex] at V ⊢;generalize c.cells.getD i ⟨0,0,0⟩=x at *;obtain ⟨s,e,t⟩:=x;simp only at V c0 c1 c2;subst V;clear hx ex G h1 h2;have o1:=O1.out;have o2:=O2.out;go_enter func262,ntmps262
    first
    | (replace X:=X;go_wp2_with fail;refine aK w zB fun L=>?_;refine (mX h 0 e t _).mono ?_;rintro _ K ⟨rfl,J⟩;obtain ⟨M,O,H⟩:=D8 L J (b:=w);(try simp at O);(try simp [go_sem] at H);replace U:=ng H;clear H;have N:=M;clear J L)
    | (replace Y:=Y;go_wp2_with fail;refine aK w zB fun L=>?_;refine (mX h 1 e t _).mono ?_;rintro _ K ⟨rfl,J⟩;obtain ⟨M,O,H⟩:=D8 L J (b:=w);(try simp at O);(first|simp [go_sem,U] at H|simp [go_sem] at H|skip);replace U:=ng H;clear H;have N:=M;clear J L)
    have p1:=own_below o1 N;have p2:=own_below o2 N;obtain ⟨k0,k1,k2,k3⟩:=pz (a:=w) (b:=K);have k4:w+1+1+1+1<K.heap.size:=tO;have j0:w<K.heap.size+1:=tO;have j1:w+1<K.heap.size+1:=tO;have j2:w+1+1<K.heap.size+1:=tO;have j3:w+1+1+1<K.heap.size+1:=tO;have j4:w+1+1+1+1<K.heap.size+1:=tO;go_wp2_with fail
    first
    | (replace X:=X
       go_region_held3 (fun w'=>hp w' w=some (.cells (aH c (.slice (some ⟨g,0,none⟩) c.cells q1) (.slice a2 c.words q2)) 31)∧hp w' K=some (.cells (aB { h with cell:=(i:Int),seen:=0,wait:=t,out:=e }) 49))
         (first|(simp [*,go_sem]))
         (first|((go_at_call 247;refine aK w zB fun L=>?_;refine aK K zB fun Z=>?_;refine (fD _ _ _).mono ?_;rintro _ w2 ⟨rfl,F⟩;have a0:=bT L F;have R:=F.size;(try simp at R);have H:=And.intro (hQ F (b:=K)) <| And.intro (hQ F (b:=w+1+1+1)) <| And.intro (hQ F (b:=w+1+1)) <| And.intro (hQ F (b:=w+1)) <| hQ F (b:=w);(first|simp [go_sem,U,k0,k1,k2,k3,k4] at H|simp [go_sem] at H|skip);replace U:=ng H;clear H;have I:=bT Z F;clear F L Z);have r1:=own_below p1 I;have r2:=own_below p2 I)))
    | (replace Y:=Y
       go_region_held3 (fun w'=>hp w' w=some (.cells (aH c (.slice (some ⟨g,0,none⟩) c.cells q1) (.slice a2 c.words q2)) 31)∧hp w' K=some (.cells (aB { h with cell:=(i:Int),seen:=1,wait:=t,out:=e }) 49))
         (first|(simp [*,go_sem]))
         (first|((go_at_call 247;refine aK w zB fun L=>?_;refine aK K zB fun Z=>?_;refine (fD _ _ _).mono ?_;rintro _ w2 ⟨rfl,F⟩;have a0:=bT L F;have R:=F.size;(try simp at R);have H:=And.intro (hQ F (b:=K)) <| And.intro (hQ F (b:=w+1+1+1)) <| And.intro (hQ F (b:=w+1+1)) <| And.intro (hQ F (b:=w+1)) <| hQ F (b:=w);(first|simp [go_sem,U,k0,k1,k2,k3,k4] at H|simp [go_sem] at H|skip);replace U:=ng H;clear H;have I:=bT Z F;clear F L Z);have r1:=own_below p1 I;have r2:=own_below p2 I)))
    go_wp2
    first
    | (replace X:=X;refine rE results262 rfl (bN c (.slice (some ⟨g,0,none⟩) c.cells q1) (.slice a2 c.words q2) tZ) rfl (aQ { dD h ⟨0,e,t⟩ with pos:=11 } K6) ⟨⟨_,_,rfl,?_,?_,aP _ _,aP _ _⟩,gy zB⟩)
    | (replace Y:=Y;refine rE results262 rfl (bN c (.slice (some ⟨g,0,none⟩) c.cells q1) (.slice a2 c.words q2) tZ) rfl (aQ { dD h ⟨1,e,t⟩ with pos:=11 } K6) ⟨⟨_,_,rfl,?_,?_,aP _ _,aP _ _⟩,gy zB⟩)
    · exact zO r1 o1
    · exact zO r2 o2
theorem J7 (c:Ch) (h:Ha) (v1 v2:Value) (lo:Nat) (w:World) (h1:aF w lo v1 c.cells) (h2:aI w lo v2 c.words) (F:0≤h.cell) (G:h.cell<c.cells.length) (H:(cellAt c h.cell).s=0) :
    Calls prog 262 #[.agg (aH c v1 v2),.agg (aB h)] w fun r w'=>eB w w' lo v1 v2 ((c,{ dD h (cellAt c h.cell) with pos:=11 },true)) r:=(yN c h v1 v2 lo w h1 h2 F G).1 H
theorem J8 (c:Ch) (h:Ha) (v1 v2:Value) (lo:Nat) (w:World) (h1:aF w lo v1 c.cells) (h2:aI w lo v2 c.words) (F:0≤h.cell) (G:h.cell<c.cells.length) (H:(cellAt c h.cell).s=1) :
    Calls prog 262 #[.agg (aH c v1 v2),.agg (aB h)] w fun r w'=>eB w w' lo v1 v2 ((c,{ dD h (cellAt c h.cell) with pos:=11 },true)) r:=(yN c h v1 v2 lo w h1 h2 F G).2 H
theorem yO (c:Ch) (h:Ha) (v1 v2:Value) (lo:Nat) (w:World) (h1:aF w lo v1 c.cells) (h2:aI w lo v2 c.words) (a3:0≤h.cell) (a4:h.cell<c.cells.length) :
    (∀ (V:(cellAt c h.cell).s=2),Calls prog 262 #[.agg (aH c v1 v2),.agg (aB h)] w fun r w'=>eB w w' lo v1 v2 ((c,{ dD h (cellAt c h.cell) with pos:=12 },true)) r) ∧
    (∀ (V:(cellAt c h.cell).s=3),Calls prog 262 #[.agg (aH c v1 v2),.agg (aB h)] w fun r w'=>eB w w' lo v1 v2 ((c,{ dD h (cellAt c h.cell) with pos:=12 },true)) r):=by
  constructor
  case' left =>
    intro V;have X:Hid (0=0):=rfl
  case' right =>
    intro V;have Y:Hid (0=0):=rfl
  all_goals
    obtain ⟨i,T⟩:∃ i:Nat,h.cell=(i:Int):=⟨h.cell.toNat,by omega⟩;have hi:i<c.cells.length:=tO;have a6:(0:Int)≤(i:Int):=tO;have a7:(i:Int)<(c.cells.length:Int):=tO;have a9:=h1.ne h2;obtain ⟨a2,q2,rfl,_⟩:=h2.seg;obtain ⟨g,q1,rfl,a1,a8,G,a5⟩:=h1.open1 hi;have O1:=aA h1;have O2:=aA h2;have aa:g<w.heap.size+1:=tO;have ab:g<w.heap.size+1+1:=tO;have ac:g<w.heap.size+1+1+1:=tO;have ah:g≠w.heap.size:=tO;have ai:g≠w.heap.size+1:=tO
    have aj:g≠w.heap.size+1+1:=tO;have ak:g≠w.heap.size+1+1+1:=tO;have ad:w.heap.size≠g:=tO;have ae:w.heap.size+1≠g:=tO;have af:w.heap.size+1+1≠g:=tO;have ag:w.heap.size+1+1+1≠g:=tO;have hx:Hid (cellAt c h.cell=c.cells.getD i ⟨0,0,0⟩):=by simp [cellAt,Hid,T]
    have c0:=G 0 tO;have c1:=G 1 tO;have c2:=G 2 tO;simp only [C3.val,Nat.add_zero] at c0 c1 c2;have ex:=hx.out;rw [ex] at V ⊢;generalize c.cells.getD i ⟨0,0,0⟩=x at *;obtain ⟨s,e,t⟩:=x;simp only at V c0 c1 c2;subst V;clear hx ex G h1 h2;have o1:=O1.out;have o2:=O2.out;go_enter func262,ntmps262
    first
    | (replace X:=X;go_wp2_with fail;refine aK w zB fun L=>?_;refine (mX h 2 e t _).mono ?_;rintro _ K ⟨rfl,J⟩;obtain ⟨M,O,H⟩:=D8 L J (b:=w);(try simp at O);(try simp [go_sem] at H);replace U:=ng H;clear H;have N:=M;clear J L)
    | (replace Y:=Y;go_wp2_with fail;refine aK w zB fun L=>?_;refine (mX h 3 e t _).mono ?_;rintro _ K ⟨rfl,J⟩;obtain ⟨M,O,H⟩:=D8 L J (b:=w);(try simp at O);(first|simp [go_sem,U] at H|simp [go_sem] at H|skip);replace U:=ng H;clear H;have N:=M;clear J L)
    have p1:=own_below o1 N;have p2:=own_below o2 N;obtain ⟨k0,k1,k2,k3⟩:=pz (a:=w) (b:=K);have k4:w+1+1+1+1<K.heap.size:=tO;have j0:w<K.heap.size+1:=tO;have j1:w+1<K.heap.size+1:=tO;have j2:w+1+1<K.heap.size+1:=tO;have j3:w+1+1+1<K.heap.size+1:=tO;have j4:w+1+1+1+1<K.heap.size+1:=tO;go_wp2_with fail
    first
    | (replace X:=X
       go_region_held3 (fun w'=>hp w' w=some (.cells (aH c (.slice (some ⟨g,0,none⟩) c.cells q1) (.slice a2 c.words q2)) 31)∧hp w' K=some (.cells (aB { h with cell:=(i:Int),seen:=2,wait:=t,out:=e }) 49))
         (first|(simp [*,go_sem]))
         (first|((go_at_call 247;refine aK w zB fun L=>?_;refine aK K zB fun Z=>?_;refine (fD _ _ _).mono ?_;rintro _ w2 ⟨rfl,F⟩;have a0:=bT L F;have R:=F.size;(try simp at R);have H:=And.intro (hQ F (b:=K)) <| And.intro (hQ F (b:=w+1+1+1)) <| And.intro (hQ F (b:=w+1+1)) <| And.intro (hQ F (b:=w+1)) <| hQ F (b:=w);(first|simp [go_sem,U,k0,k1,k2,k3,k4] at H|simp [go_sem] at H|skip);replace U:=ng H;clear H;have I:=bT Z F;clear F L Z);have r1:=own_below p1 I;have r2:=own_below p2 I)))
    | (replace Y:=Y
       go_region_held3 (fun w'=>hp w' w=some (.cells (aH c (.slice (some ⟨g,0,none⟩) c.cells q1) (.slice a2 c.words q2)) 31)∧hp w' K=some (.cells (aB { h with cell:=(i:Int),seen:=3,wait:=t,out:=e }) 49))
         (first|(simp [*,go_sem]))
         (first|((go_at_call 247;refine aK w zB fun L=>?_;refine aK K zB fun Z=>?_;refine (fD _ _ _).mono ?_;rintro _ w2 ⟨rfl,F⟩;have a0:=bT L F;have R:=F.size;(try simp at R);have H:=And.intro (hQ F (b:=K)) <| And.intro (hQ F (b:=w+1+1+1)) <| And.intro (hQ F (b:=w+1+1)) <| And.intro (hQ F (b:=w+1)) <| hQ F (b:=w);(first|simp [go_sem,U,k0,k1,k2,k3,k4] at H|simp [go_sem] at H|skip);replace U:=ng H;clear H;have I:=bT Z F;clear F L Z);have r1:=own_below p1 I;have r2:=own_below p2 I)))
    go_wp2
    first
    | (replace X:=X;refine rE results262 rfl (bN c (.slice (some ⟨g,0,none⟩) c.cells q1) (.slice a2 c.words q2) tZ) rfl (aQ { dD h ⟨2,e,t⟩ with pos:=12 } K6) ⟨⟨_,_,rfl,?_,?_,aP _ _,aP _ _⟩,gy zB⟩)
    | (replace Y:=Y;refine rE results262 rfl (bN c (.slice (some ⟨g,0,none⟩) c.cells q1) (.slice a2 c.words q2) tZ) rfl (aQ { dD h ⟨3,e,t⟩ with pos:=12 } K6) ⟨⟨_,_,rfl,?_,?_,aP _ _,aP _ _⟩,gy zB⟩)
    · exact zO r1 o1
    · exact zO r2 o2
theorem J9 (c:Ch) (h:Ha) (v1 v2:Value) (lo:Nat) (w:World) (h1:aF w lo v1 c.cells) (h2:aI w lo v2 c.words) (F:0≤h.cell) (G:h.cell<c.cells.length) (H:(cellAt c h.cell).s=2) :
    Calls prog 262 #[.agg (aH c v1 v2),.agg (aB h)] w fun r w'=>eB w w' lo v1 v2 ((c,{ dD h (cellAt c h.cell) with pos:=12 },true)) r:=(yO c h v1 v2 lo w h1 h2 F G).1 H
theorem JA (c:Ch) (h:Ha) (v1 v2:Value) (lo:Nat) (w:World) (h1:aF w lo v1 c.cells) (h2:aI w lo v2 c.words) (F:0≤h.cell) (G:h.cell<c.cells.length) (H:(cellAt c h.cell).s=3) :
    Calls prog 262 #[.agg (aH c v1 v2),.agg (aB h)] w fun r w'=>eB w w' lo v1 v2 ((c,{ dD h (cellAt c h.cell) with pos:=12 },true)) r:=(yO c h v1 v2 lo w h1 h2 F G).2 H
theorem JB (c:Ch) (h:Ha) (v1 v2:Value) (lo:Nat) (w:World) (h1:aF w lo v1 c.cells) (h2:aI w lo v2 c.words) (a3:0≤h.cell) (a4:h.cell<c.cells.length) (V:(cellAt c h.cell).s=9) (hk:eD h.code h.elem=true) :
    ed 262 c h v1 v2 lo w ((c,anew h,true)):=by
  obtain ⟨i,R⟩:∃ i:Nat,h.cell=(i:Int):=⟨h.cell.toNat,by omega⟩;have hi:i<c.cells.length:=tO;have a6:(0:Int)≤(i:Int):=tO;have a7:(i:Int)<(c.cells.length:Int):=tO;have a9:=h1.ne h2;obtain ⟨Z,q2,rfl,_⟩:=h2.seg;obtain ⟨g,q1,rfl,a1,a8,G,a5⟩:=h1.open1 hi;have O1:=aA h1;have O2:=aA h2;have aa:g<w.heap.size+1:=tO;have ab:g<w.heap.size+1+1:=tO;have ac:g<w.heap.size+1+1+1:=tO;have ah:g≠w.heap.size:=tO;have ai:g≠w.heap.size+1:=tO
  have aj:g≠w.heap.size+1+1:=tO;have ak:g≠w.heap.size+1+1+1:=tO;have ad:w.heap.size≠g:=tO;have ae:w.heap.size+1≠g:=tO;have af:w.heap.size+1+1≠g:=tO;have ag:w.heap.size+1+1+1≠g:=tO;have hx:Hid (cellAt c h.cell=c.cells.getD i ⟨0,0,0⟩):=by simp [cellAt,Hid,R]
  have c0:=G 0 tO;have c1:=G 1 tO;have c2:=G 2 tO;simp only [C3.val,Nat.add_zero] at c0 c1 c2;have ex:=hx.out;rw [ex] at V;generalize c.cells.getD i ⟨0,0,0⟩=x at *;obtain ⟨s,e,t⟩:=x;simp only at V c0 c1 c2;subst V;clear hx ex G h1 h2;obtain ⟨X,M⟩:∃ X,anew h=X:=⟨_,rfl⟩;have Y:=aA fun W=>A8 h hk W
  rw [M] at Y;rw [M];clear M hk;have o1:=O1.out;have o2:=O2.out;go_enter func262,ntmps262;go_wp2_with fail;refine aK w zB fun N=>?_;refine (mX h 9 e t _).mono ?_;rintro _ H ⟨rfl,K⟩;obtain ⟨O,T,L⟩:=D8 N K (b:=w);(try simp at T);(try simp [go_sem] at L);replace bX:=ng L;clear L;have I:=O;clear K N
  have p1:=own_below o1 I;have p2:=own_below o2 I;obtain ⟨k0,k1,k2,k3⟩:=pz (a:=w) (b:=H);have k4:w+1+1+1+1<H.heap.size:=tO;have j0:w<H.heap.size+1:=tO;have j1:w+1<H.heap.size+1:=tO;have j2:w+1+1<H.heap.size+1:=tO;have j3:w+1+1+1<H.heap.size+1:=tO;have j4:w+1+1+1+1<H.heap.size+1:=tO;go_wp2_with fail
  go_region_held3 (fun w'=>hp w' w=some (.cells (aH c (.slice (some ⟨g,0,none⟩) c.cells q1) (.slice Z c.words q2)) 31)∧hp w' (w+1)=some (.cells (aB h) 49))
    (first|(simp [*,go_sem]))
    (first|((go_at_call 250;refine aK w zB fun N=>?_;refine aK H zB fun bk=>?_;refine (Y.out _).mono ?_;rintro _ w2 ⟨rfl,F⟩;have a0:=bT N F;have U:=F.size;(try simp at U);have L:=And.intro (hQ F (b:=H)) <| And.intro (hQ F (b:=w+1+1+1)) <| And.intro (hQ F (b:=w+1+1)) <| And.intro (hQ F (b:=w+1)) <| hQ F (b:=w);(first|simp [go_sem,bX,k0,k1,k2,k3,k4] at L|simp [go_sem] at L|skip);replace bX:=ng L;clear L;have J:=bT bk F;clear F N bk);have r1:=own_below p1 J;have r2:=own_below p2 J))
  go_wp2;refine rE results262 rfl (bN c (.slice (some ⟨g,0,none⟩) c.cells q1) (.slice Z c.words q2) tZ) rfl (aQ X (by simp [go_sem, *] <;> first|rfl|simp [dD,R])) ⟨⟨_,_,rfl,?_,?_,aP _ _,aP _ _⟩,gy zB⟩
  · exact zO r1 o1
  · exact zO r2 o2
theorem JC (c:Ch) (h:Ha) (v1 v2:Value) (lo:Nat) (w:World) (h1:aF w lo v1 c.cells) (h2:aI w lo v2 c.words) (a0:0≤h.cell) (a1:h.cell<c.cells.length) (M:(cellAt c h.cell).s=6) :
    ed 262 c h v1 v2 lo w ((c,h,false)):=by
  obtain ⟨i,K⟩:∃ i:Nat,h.cell=(i:Int):=⟨h.cell.toNat,by omega⟩;have hi:i<c.cells.length:=tO;have a4:(0:Int)≤(i:Int):=tO;have a5:(i:Int)<(c.cells.length:Int):=tO;have a7:=h1.ne h2;obtain ⟨a2,q2,rfl,_⟩:=h2.seg;obtain ⟨g,q1,rfl,U,a6,F,a3⟩:=h1.open1 hi;have Z:=aA h1;have O2:=aA h2;have a8:g<w.heap.size+1:=tO;have a9:g<w.heap.size+1+1:=tO;have aa:g<w.heap.size+1+1+1:=tO;have af:g≠w.heap.size:=tO;have ag:g≠w.heap.size+1:=tO
  have ah:g≠w.heap.size+1+1:=tO;have ai:g≠w.heap.size+1+1+1:=tO;have ab:w.heap.size≠g:=tO;have ac:w.heap.size+1≠g:=tO;have ad:w.heap.size+1+1≠g:=tO;have ae:w.heap.size+1+1+1≠g:=tO;have V:Hid (cellAt c h.cell=c.cells.getD i ⟨0,0,0⟩):=by simp [cellAt,Hid,K]
  have c0:=F 0 tO;have R:=F 1 tO;have c2:=F 2 tO;simp only [C3.val,Nat.add_zero] at c0 R c2;have T:=V.out;rw [T] at M;generalize c.cells.getD i ⟨0,0,0⟩=x at *;obtain ⟨s,e,t⟩:=x;simp only at M c0 R c2;subst M;clear V T F h1 h2;have X:=Z.out;have Y:=O2.out;go_enter func262,ntmps262;go_wp2_with fail;refine aK w zB fun O=>?_;refine (mX h 6 e t _).mono ?_;rintro _ I ⟨rfl,H⟩;obtain ⟨J,L,N⟩:=D8 O H (b:=w);(try simp at L);(try simp [go_sem] at N);replace bX:=ng N;clear N;have G:=J;clear H O
  have p1:=own_below X G;have p2:=own_below Y G;obtain ⟨k0,k1,k2,k3⟩:=pz (a:=w) (b:=I);have k4:w+1+1+1+1<I.heap.size:=tO;have j0:w<I.heap.size+1:=tO;have j1:w+1<I.heap.size+1:=tO;have j2:w+1+1<I.heap.size+1:=tO;have j3:w+1+1+1<I.heap.size+1:=tO;have j4:w+1+1+1+1<I.heap.size+1:=tO;have r1:=p1;have r2:=p2;go_wp2_with fail
  go_region
  go_wp2;refine rE results262 rfl (bN c (.slice (some ⟨g,0,none⟩) c.cells q1) (.slice a2 c.words q2) tZ) rfl (aQ h (by simp [go_sem, *] <;> first|rfl|simp [dD,K])) ⟨⟨_,_,rfl,?_,?_,aP _ _,aP _ _⟩,gy zB⟩
  · exact zO r1 X
  · exact zO r2 Y
theorem GN (c:Ch) (h:Ha) (v1 v2:Value) (lo:Nat) (w:World) (h1:aF w lo v1 c.cells) (h2:aI w lo v2 c.words) (a1:0≤h.cell) (a3:h.cell<c.cells.length) (n0:((cellAt c h.cell).s == 0)=false) (n1:((cellAt c h.cell).s == 1)=false) (n2:((cellAt c h.cell).s == 2)=false) (n3:((cellAt c h.cell).s == 3)=false) (n9:((cellAt c h.cell).s == 9)=false) (n6:((cellAt c h.cell).s == 6)=false) :
    ed 262 c h v1 v2 lo w (nothing):=by
  have b1:=nC h1;have b2:=nC h2;have T:=aA fun W=>jJ W lo v1 v2
  obtain ⟨i,a4⟩:∃ i:Nat,h.cell=(i:Int):=⟨h.cell.toNat,by omega⟩;have hi:i<c.cells.length:=tO;have a9:(0:Int)≤(i:Int):=tO;have aa:(i:Int)<(c.cells.length:Int):=tO;have ac:=h1.ne h2;obtain ⟨a2,q2,rfl,_⟩:=h2.seg;obtain ⟨g,q1,rfl,a6,ab,F,a8⟩:=h1.open1 hi;have O1:=aA h1;have O2:=aA h2;have ad:g<w.heap.size+1:=tO;have ae:g<w.heap.size+1+1:=tO;have af:g<w.heap.size+1+1+1:=tO;have au:g≠w.heap.size:=tO;have av:g≠w.heap.size+1:=tO
  have aw:g≠w.heap.size+1+1:=tO;have ax:g≠w.heap.size+1+1+1:=tO;have ao:w.heap.size≠g:=tO;have ap:w.heap.size+1≠g:=tO;have aq:w.heap.size+1+1≠g:=tO;have ar:w.heap.size+1+1+1≠g:=tO;have hx:Hid (cellAt c h.cell=c.cells.getD i ⟨0,0,0⟩):=by simp [cellAt,Hid,a4]
  have c0:=F 0 tO;have c1:=F 1 tO;have c2:=F 2 tO;simp only [C3.val,Nat.add_zero] at c0 c1 c2;have U:∀ j,w.heap.size≤j→some j≠(Value.slice (some ⟨g,0,none⟩) c.cells q1).ownBlock:=fun j hj e=>by have:=b1 _ e.symm;omega
  have V:∀ j,w.heap.size≤j→some j≠(Value.slice a2 c.words q2).ownBlock:=fun j hj e=>by have:=b2 _ e.symm;omega
  have ag:=U (w.heap.size) tO;have ak:=V (w.heap.size) tO;have ah:=U (w+1) tO;have al:=V (w+1) tO;have ai:=U (w+1+1) tO;have am:=V (w+1+1) tO;have aj:=U (w+1+1+1) tO;have an:=V (w+1+1+1) tO;have ex:=hx.out;rw [ex] at n0 n1 n2 n3 n9 n6;generalize c.cells.getD i ⟨0,0,0⟩=x0 at *;obtain ⟨ss,e,t⟩:=x0;simp only at n0 n1 n2 n3 n9 n6 c0 c1 c2;generalize nothing=x at *;clear F hx h1 h2 a1 a3 ex;have o1:=O1.out
  have o2:=O2.out;go_enter func262,ntmps262;go_wp2_with fail;refine aK w zB fun bb=>?_;refine (mX h ss e t _).mono ?_;rintro _ w1 ⟨rfl,H⟩;obtain ⟨N,O,I⟩:=D8 bb H (b:=w);(try simp at O);(try simp [go_sem] at I);replace bX:=ng I;clear I;have a5:=N;clear H bb
  go_wp2_with fail;refine (T.out _).mono ?_
  rintro _ w3 ⟨⟨y1,y2,rfl,L,M,X,Y⟩,G⟩;have a7:ni (Value.slice (some ⟨g,0,none⟩) c.cells q1).ownBlock (Value.slice a2 c.words q2).ownBlock w w3:=kv (gy zB) (gy G);have R:=G.size;(try simp at R);have I:=NS G (b:=w);(first|simp [go_sem,bX] at I|simp [go_sem] at I|skip);replace bX:=fP I;clear I G;obtain ⟨⟨J,K⟩,Z,a0⟩:=sO (w:=w) (w+1+1+1+1) X Y b1 b2;obtain ⟨ya,yp,rfl,_⟩:=L.seg;obtain ⟨yb,yq,rfl,_⟩:=M.seg
  go_wp2;refine rE results262 rfl (bN x.1 (.slice ya x.1.cells yp) (.slice yb x.1.words yq) tY) rfl (aQ x.2.1 tY) ⟨⟨_,_,rfl,?_,?_,Z,a0⟩,zN⟩
  · exact zP L L J
  · exact zP M M K
end
section
open Go.RowKit
theorem Lie.take {w:World} {b n m k:Nat} {f:Nat→Nat→Value} (h:Lie w b n k f) (H:m≤n):Lie w b m k f:=by
 obtain ⟨c,t,F,I,hc⟩:=h;exact ⟨c,t,F,Nat.le_trans (Nat.mul_le_mul_right k H) I,fun i j J G=>hc i j tO G⟩
theorem Lie.alloc {w:World} {b n k:Nat} {f:Nat→Nat→Value} (h:Lie w b n k f) (o:Obj):Lie (w.alloc o) b n k f:=h.of_block (Below.heap_alloc w o b h.lt)
theorem MH (l:List Int) (x:Int) (i j:Nat):(if i=l.length then Value.int .i64 x else lG l i j)=lG (l ++ [x]) i j:=by
 unfold lG;by_cases e:i=l.length
 ·subst e;simp [List.getD]
 ·rw [if_neg e]
  by_cases F:i<l.length
  ·simp [List.getD,List.getElem?_append_left F]
  ·have h1:l[i]?=none:=List.getElem?_eq_none tO
   have h2:(l ++ [x])[i]?=none:=List.getElem?_eq_none dQ;simp [List.getD,h1,h2]
theorem SS (w:World) (g:Nat) (h:g=w.heap.size):Lie (w.alloc (.cells #[.int .i64 0,.int .i64 0,.int .i64 0,.int .i64 0,.int .i64 0,.int .i64 0,.int .i64 0,.int .i64 0,.int .i64 0,.int .i64 0,.int .i64 0,.int .i64 0,.int .i64 0,.int .i64 0,.int .i64 0,.int .i64 0,.int .i64 0,.int .i64 0,.int .i64 0,.int .i64 0,.int .i64 0,.int .i64 0,.int .i64 0,.int .i64 0,.int .i64 0,.int .i64 0,.int .i64 0,.int .i64 0,.int .i64 0,.int .i64 0,.int .i64 0,.int .i64 0,.int .i64 0,.int .i64 0,.int .i64 0,.int .i64 0,.int .i64 0,.int .i64 0,.int .i64 0,.int .i64 0] 142)) g 40 1 (lG []):=by
 subst h;refine ⟨_,_,heap_alloc_new w _,by simp,fun i j F G=>?_⟩;have:j=0:=by omega
 subst this;have e:(#[Value.int .i64 0,.int .i64 0,.int .i64 0,.int .i64 0,.int .i64 0,.int .i64 0,.int .i64 0,.int .i64 0,.int .i64 0,.int .i64 0,.int .i64 0,.int .i64 0,.int .i64 0,.int .i64 0,.int .i64 0,.int .i64 0,.int .i64 0,.int .i64 0,.int .i64 0,.int .i64 0,.int .i64 0,.int .i64 0,.int .i64 0,.int .i64 0,.int .i64 0,.int .i64 0,.int .i64 0,.int .i64 0,.int .i64 0,.int .i64 0,.int .i64 0,.int .i64 0,.int .i64 0,.int .i64 0,.int .i64 0,.int .i64 0,.int .i64 0,.int .i64 0,.int .i64 0,.int .i64 0]:Array Value)=Array.replicate 40 (.int .i64 0):=rfl
 rw [e];simp [lG,F]
theorem BP (c:Ch) (H:Int) (a b:Option Addr) (p q:Nat) (w:World) (h1:gG w w a c.cells) (h2:gI w w b c.words) (m1:c.cells.length≤maxLen) (m2:c.words.length≤maxLen) :
  Calls prog 57 #[.agg #[c.cap,c.sent,c.got,c.fin,.slice a c.cells p,.slice b c.words q],.int .i64 H] w fun r w'=>(∃ v,r=.returned v∧Rc w' w v (lI c H))∧Below w w w':=by
 have T:=aA h1;have H2:=aA h2;have M1:=aA m1;have M2:=aA m2;clear h1 h2 m1 m2;by_cases hc:aN c=true
 ·have V:Hid (qh c.cells H c.cells=lI c H):=by simp [lI,hc,Hid,Gw]
  have a2:c.cells.length≤40:=by
   have:=rG c ▸ hc;simp [p9] at this;omega
  go_enter func57,ntmps57
  go_wp2_with fail;refine (iY c a b p q _ (((T.out).below zB).more cK) (((H2.out).below zB).more cK) M1.out M2.out).mono ?_
  rintro _ J ⟨rfl,G⟩;have M:Below w w J:=bT zB G;have a1:=G.size;simp at a1;have:=fun o=>G.cell (p:=⟨w,o,none⟩) cK
  have:w<J.heap.size:=by omega
  clear G;have N:=SS J J rfl;have U:=aA N;clear N;go_wp2_with fail;go_loopw [6,15] (fun n i wr=>∃ k:Nat,k≤c.cells.length∧i=.int .i64 k∧n=.int .i64 (qh c.cells H k).length∧Lie wr J 40 1 (lG (qh c.cells H k))∧Below w w wr) (fun _ i _=>c.cells.length - (intOf i).toNat)
  case atStart=>exact ⟨0,Nat.zero_le _,rfl,by simp [Jm],by rw [Jm];exact U.out,zB⟩
  case round =>
   obtain ⟨k,hk,rfl,rfl,K,L⟩:=hrel;have hs:=L.size;have hl:=K.lt;by_cases F:k<c.cells.length
   ·obtain h0|⟨X,Y,rfl,Z,I⟩:=T.out
    ·omega
    have c0:=(L.cell (p:=⟨X,Y+k*3+0,none⟩) Z).trans (I k 0 F tO);have c1:=(L.cell (p:=⟨X,Y+k*3+1,none⟩) Z).trans (I k 1 F tO);have c2:=(L.cell (p:=⟨X,Y+k*3+2,none⟩) Z).trans (I k 2 F tO);simp only [jy,C3.val,Nat.add_zero] at c0 c1 c2;clear I;generalize O:c.cells.getD k ⟨0,0,0⟩=d at c0 c1 c2;have R:=aA O;clear O;have a0:=Az c.cells H k;have e0:=K.cell (i:=(qh c.cells H k).length) (j:=0) tO tO;simp only [Nat.add_zero,Nat.mul_one] at e0
    have f1:=K.frozen;have a3:(0:Int)≤((qh c.cells H k).length:Int):=tO;have a4:((qh c.cells H k).length:Int)<40:=tO;go_wp2
    ·go_roundw
     case rel=>exact ⟨k+1,by omega,by go_num,by rw [Ay F R.out ‹_›];simp,by rw [Ay F R.out ‹_›];exact ((K.set1 tO (.int .i64 k)).congr (fun i j _ _=>MH _ _ i j)).alloc _,zB⟩
     case measure=>simp [intOf];omega
    ·go_roundw
     case rel=>exact ⟨k+1,by omega,by go_num,by rw [DT F R.out ‹_›],by rw [DT F R.out ‹_›];exact K.alloc _,zB⟩
     case measure=>simp [intOf];omega
   ·have:k=c.cells.length:=by omega
    subst this;have a0:=Az c.cells H c.cells;go_wp2_with (go_at_call 108;refine (Pg (qh c.cells H c.cells).length tO _ _).mono ?_;rintro _ _ ⟨rfl,rfl⟩);go_ret;exact ⟨⟨_,rfl,V.out ▸ .inr ⟨_,_,rfl,by omega,K.take tO⟩⟩,L⟩
 ·have V:Hid ([]=lI c H):=by simp [lI,hc,Hid]
  go_enter func57,ntmps57
  go_wp2_with fail;refine (iY c a b p q _ (((T.out).below zB).more cK) (((H2.out).below zB).more cK) M1.out M2.out).mono ?_
  rintro _ J ⟨rfl,G⟩;have M:Below w w J:=bT zB G;go_wp2;go_ret;exact ⟨⟨_,rfl,V.out ▸ .inl ⟨rfl,rfl⟩⟩,M⟩
def kf (cells:List C3) (l:List Int) (k i j:Nat):Value:=if i<k then .int .i64 (elemOf cells (l.getD i 0)) else lG l i j
theorem WC (cells:List C3) (l:List Int):kf cells l 0=lG l:=by funext i j;simp [kf]
theorem SV {cells:List C3} {l:List Int} {k:Nat} {x:Int} (h:elemOf cells (l.getD k 0)=x) (i j:Nat):(if i=k then Value.int .i64 x else kf cells l k i j)=kf cells l (k+1) i j:=by
 unfold kf;by_cases e:i=k
 ·subst e;rw [if_pos rfl,if_pos tO,h]
 ·rw [if_neg e]
  by_cases F:i<k
  ·rw [if_pos F,if_pos tO]
  ·rw [if_neg F,if_neg tO]
theorem Vi {c:Ch} (h:aN c=true):∀ i j,i<(BK c 2).length→j<1→kf c.cells (BK c 2) (BK c 2).length i j=lG (keptIn c) i j:=fun i j F _=>by
 have e:keptIn c=(BK c 2).map (elemOf c.cells):=by unfold keptIn;rw [if_pos h];rfl
 rw [e];simp [kf,lG,F,List.getD]
theorem PZ {c:Ch} (h:aN c=true):(keptIn c).length=(BK c 2).length:=by unfold keptIn;rw [if_pos h];simp
theorem JD (c:Ch) (a b:Option Addr) (p q:Nat) (w:World) (h1:gG w w a c.cells) (h2:gI w w b c.words) (m1:c.cells.length≤maxLen) (m2:c.words.length≤maxLen) :
  Calls prog 17 #[.agg #[c.cap,c.sent,c.got,c.fin,.slice a c.cells p,.slice b c.words q]] w fun r w'=>(∃ v,r=.returned v∧Rc w' w v (keptIn c))∧Below w w w':=by
 have Y:=aA h1;have H2:=aA h2;have M1:=aA m1;have M2:=aA m2;clear h1 h2 m1 m2;go_enter func17,ntmps17;go_wp2_with fail;refine (BP c 2 a b p q _ (((Y.out).below zB).more cK) (((H2.out).below zB).more cK) M1.out M2.out).mono ?_;rintro _ R ⟨⟨v1,rfl,K⟩,F⟩;have G:Below w w R:=bT zB F;have X:=F.size;simp at X K;have O:R.cell? ⟨w,4,none⟩=some (.slice a c.cells p):=(F.cell (p:=⟨w,4,none⟩) cK).trans cK;by_cases hc:aN c=true
 ·have M:lI c 2=BK c 2:=by simp [lI,hc]
  rw [M] at K;have HE:=aA (Vi hc);have T:=aA (PZ hc);have HL:Hid (∀ x ∈ BK c 2,∃ k:Nat,x=(k:Int)∧k<c.cells.length):=fun x hx=>by
   obtain ⟨k,h1,_,h3⟩:=wu 2 c.cells 0 x hx;exact ⟨k,h1,by omega⟩
  have a2:c.cells.length≤40:=by
   have:=rG c ▸ hc;simp [p9] at this;omega
  have a6:(BK c 2).length≤c.cells.length:=by have:=rT 2 c.cells 0;unfold BK;omega
  clear F M hc;generalize BK c 2=l at *;rcases K with ⟨rfl,V⟩|⟨g,cap,rfl,a7,J⟩
  ·go_wp2_with fail
   go_loopw [10] (fun i wr=>i=.int .i64 0∧wr=R) (fun i _=>0 - (intOf i).toNat)
   case atStart=>exact ⟨rfl,rfl⟩
   case round =>
    obtain ⟨rfl,rfl⟩:=hrel;go_wp2;go_ret;exact ⟨⟨_,rfl,.inl ⟨rfl,by rw [T.out,V]⟩⟩,G⟩
  ·go_wp2_with fail
   go_loopw [10] (fun i wr=>∃ k:Nat,k≤l.length∧i=.int .i64 k∧Lie wr g l.length 1 (kf c.cells l k)∧wr.cell? ⟨w,4,none⟩=some (.slice a c.cells p)∧Below w w wr) (fun i _=>l.length - (intOf i).toNat)
   case atStart=>exact ⟨0,Nat.zero_le _,rfl,by rw [WC];exact J,O,G⟩
   case round =>
    clear J O G;obtain ⟨k,hk,rfl,J,x4,U⟩:=hrel;have hs:=U.size;have hl:=J.lt;by_cases H:k<l.length
    ·obtain ⟨i,I,hi⟩:=HL.out (l.getD k 0) (by rw [List.getD,List.getElem?_eq_getElem H];exact List.getElem_mem H)
     obtain h0|⟨Z,bo,rfl,hb,N⟩:=Y.out
     ·omega
     have c1:=(U.cell (p:=⟨Z,bo+i*3+1,none⟩) hb).trans (N i 1 hi tO);simp only [jy,C3.val] at c1;clear N;have he:elemOf c.cells (l.getD k 0)=(c.cells.getD i ⟨0,0,0⟩).e:=by rw [I];simp [elemOf]
     have L:=aA he;generalize (c.cells.getD i ⟨0,0,0⟩).e=ev at c1 L;clear he;have cl:=J.cell (i:=k) (j:=0) H tO;simp only [Nat.add_zero,Nat.mul_one,kf,Nat.lt_irrefl,if_false,lG,I] at cl;have f1:=J.frozen;have HX:=aA I;clear I;have a4:(0:Int)≤(k:Int):=tO;have a5:(k:Int)<(l.length:Int):=tO;have a0:(0:Int)≤(i:Int):=tO;have a1:(i:Int)<(c.cells.length:Int):=tO;have a8:w.heap.size≠g:=tO;have a3:Z≠g:=tO;go_wp2
     go_roundw
     case rel=>exact ⟨k+1,by omega,by go_num,(J.set1 H (.int .i64 ev)).congr (fun i j _ _=>SV L.out i j),(World.cell?_setCell_other _ _ _ _ (fun e=>by simp at e)).trans x4,zB⟩
     case measure=>simp [intOf];omega
    ·have:k=l.length:=by omega
     subst this;go_wp2;go_ret;exact ⟨⟨.slice (some ⟨g,0,none⟩) l.length cap,rfl,.inr ⟨g,cap,by rw [T.out],by omega,by rw [T.out];exact J.congr HE.out⟩⟩,U⟩
 ·have M:lI c 2=[]:=by simp [lI,hc]
  have e2:keptIn c=[]:=by simp [keptIn,hc]
  rw [M] at K;have HV:Hid (keptIn c=[]):=e2;clear F M e2 hc;obtain ⟨va,vc,rfl,_⟩:=K.seg;go_wp2_with fail;go_loopw [10] (fun i wr=>i=.int .i64 0∧wr=R) (fun i _=>0 - (intOf i).toNat)
  case atStart=>exact ⟨rfl,rfl⟩
  case round =>
   obtain ⟨rfl,rfl⟩:=hrel;go_wp2;go_ret;exact ⟨⟨_,rfl,HV.out ▸ K.more tO⟩,G⟩
theorem xy (X m:Int) (G:0≤m) (h1:m<2147483648):0≤bits .and .u64 X m∧bits .and .u64 X m≤m:=by
 obtain ⟨k,rfl⟩:=Int.eq_ofNat_of_zero_le G;have H:(BitVec.ofInt 64 (k:Int)).toNat=k:=by
  rw [BitVec.toNat_ofInt];simp;omega
 have F:(BitVec.ofInt 64 X &&& BitVec.ofInt 64 (k:Int)).toNat≤k:=by
  rw [BitVec.toNat_and,H];exact Nat.and_le_right
 have e:bits .and .u64 X (k:Int)=((BitVec.ofInt 64 X &&& BitVec.ofInt 64 (k:Int)).toNat:Int):=by
  show IntKind.u64.wrap ((BitVec.ofInt 64 X &&& BitVec.ofInt 64 (k:Int)).toNat:Int)=_;generalize (BitVec.ofInt 64 X &&& BitVec.ofInt 64 (k:Int)).toNat=z at F;simp [IntKind.wrap,IntKind.signed,IntKind.bits];omega
 rw [e];omega
def DI (w:World) (B g:Nat):Prop:=∃ (a:Option Addr) (n cap i:Nat) (h:Int) (bs:Nat→Int),
 w.heap[g]?=some (.cells #[.slice a n cap,.int .i64 i,.int .u64 h] 75 (0,0))∧i≤n∧n≤4096∧B≤g∧(∀ j,0≤bs j∧bs j≤255)∧Seg w B a n 1 (fun j _=>.int .u8 (bs j))
theorem DI.lt {w:World} {B g:Nat} (h:DI w B g):g<w.heap.size:=by
 obtain ⟨a,n,cap,i,h,bs,F,_⟩:=h;exact (Array.getElem?_eq_some_iff.1 F).1
theorem DI.le {w:World} {B g:Nat} (h:DI w B g):B≤g:=by
 obtain ⟨a,n,cap,i,h,bs,G,_,_,F,_⟩:=h;exact F
theorem DI.keep {w w':World} {B g:Nat} (h:DI w B g) (e:w'.heap[g]?=w.heap[g]?) (k:Below B w w'):DI w' B g:=by
 obtain ⟨a,n,cap,i,h,bs,H,h1,h2,h3,F,G⟩:=h;exact ⟨a,n,cap,i,h,bs,e.trans H,h1,h2,h3,F,G.below k⟩
theorem DI.alloc {w:World} {B g:Nat} {o:Obj} (h:DI w B g):DI (w.alloc o) B g:=h.keep (Below.heap_alloc w o g h.lt) ((Below.refl _ _).alloc K8 o)
theorem DI.drew {w:World} {B g:Nat} (h:DI w B g):DI w.drew B g:=h
theorem DI.setCell {w:World} {B g:Nat} {p:Addr} {u:Value} (h:DI w B g) (hp:B≤p.block) (F:g≠p.block):DI (w.setCell p u) B g:=h.keep (Below.heap_setCell w p u g F) ((Below.refl _ _).setCell hp u)
theorem DI.below {w w':World} {B g:Nat} (h:DI w B g) (k:Below w w w'):DI w' B g:=h.keep (k.block g h.lt) (k.mono K8)
theorem Qa (n cap:Nat) (a:Option Addr) (bs:Nat→Int) (J:Int) (w:World) (h:Code w w a n bs) :
  Calls prog 10 #[.slice a n cap,.int .u64 J] w fun r w'=>∃ g,r=.returned (.pointer (some ⟨g,0,none⟩))∧DI w' w g∧Below w w w':=by
 have U:=h.len;have HB:=aA h.bd;have L:=aA h.seg;clear h;go_enter func10,ntmps10;go_wp2;go_loopw [6] (fun i wr=>∃ (k:Nat) (H:Int),k≤n∧i=.int .i64 k∧wr.heap[w.heap.size]?=some (.cells #[.slice a n cap,.int .i64 0,.int .u64 H] 75 (0,0))∧Below w w wr) (fun i _=>n - (intOf i).toNat)
 case atStart=>exact ⟨0,_,Nat.zero_le _,rfl,heap_alloc_new w _,(Below.refl _ _).alloc (Nat.le_refl _) _⟩
 case round =>
  obtain ⟨k,H,hk,rfl,G,F⟩:=hrel;have hs:=F.size;have N:w<wr.heap.size:=(Array.getElem?_eq_some_iff.1 G).1;by_cases K:k<n
  ·obtain Z|⟨b,o,rfl,R,hc⟩:=L.out
   ·omega
   have M:=(F.cell (p:=⟨b,o+k*1+0,none⟩) R).trans (hc k 0 K tO);have I:=HB.out k;simp only [Nat.add_zero,Nat.mul_one] at M;clear hc;generalize bs k=y at M I;obtain ⟨V,X⟩:=I;have c0:=cell_of_row wr w 0 _ _ _ G;have c2:=cell_of_row wr w 2 _ _ _ G;have Y:=dJ G;simp at c0 c2;have T:(k:Int)<(n:Int):=tO;have O:=aA G;clear G;go_wp2
   go_still_tail 15,bH
   go_wp2;go_roundw
   case rel=>exact ⟨k+1,_,by omega,by go_num,IU (n:=1) (by simpa using iZ O.out 2 _),zB⟩
   case measure=>simp [intOf];omega
  ·have:k=n:=by omega
   subst this;go_wp2;go_ret;exact ⟨_,rfl,⟨a,k,cap,0,H,bs,G,by omega,U,Nat.le_refl _,HB.out,L.out.below F⟩,F⟩
theorem JE (B g n cap i:Nat) (a:Option Addr) (h m:Int) (bs:Nat→Int) (w:World)
  (F:w.heap[g]?=some (.cells #[.slice a n cap,.int .i64 i,.int .u64 h] 75 (0,0))) (hi:i≤n) (Y:n≤4096) (L:B≤g) (I:∀ j,0≤bs j∧bs j≤255) (N:Hid (Seg w B a n 1 (fun j _=>.int .u8 (bs j)))) (M:0<m) (a5:m≤1000000) :
  Calls prog 11 #[.pointer (some ⟨g,0,none⟩),.int .i64 m] w fun r w'=>xM (m - 1) r∧DI w' B g∧Gr g w w':=by
 have c0:=cell_of_row w g 0 _ _ _ F;have Z:=cell_of_row w g 1 _ _ _ F;have c2:=cell_of_row w g 2 _ _ _ F;have f0:=dJ F;have a4:g<w.heap.size:=(Array.getElem?_eq_some_iff.1 F).1;simp at c0 Z c2;have U:=aA F;have HB:=aA I;clear F I;by_cases O:i<n
 ·obtain h0|⟨b,o,rfl,hb,hc⟩:=N.out
  ·omega
  have V:=hc i 0 O tO;have G:=HB.out i;simp only [Nat.add_zero,Nat.mul_one] at V;clear hc;generalize bs i=y at V G;obtain ⟨a6,a7⟩:=G;have a0:b≠g:=tO;have a1:¬ g=b:=tO;have a2:(0:Int)≤(i:Int):=tO;have a3:(i:Int)<(n:Int):=tO;go_enter func11,ntmps11;go_wp2;generalize IntKind.u64.wrap (IntKind.u64.wrap (h*6364136223846793005)+1442695040888963407)=H;have K:=xy (H / 8589934592) 16777215 tO tO;generalize bits BinOp.and IntKind.u64 (H / 8589934592) 16777215=x at K
  obtain ⟨R,T⟩:=K;have J:wrap64 x=x:=IntWalk.wrap64_in _ tO;rw [J];clear J
  go_quiet (fail)
  go_wp2
  go_quiet (fail)
  go_wp2;go_ret;exact ⟨⟨_,rfl,(pW _ M).1,(pW _ M).2⟩,⟨_,n,cap,i+1,H,bs,by simpa using iZ (IU (iZ U.out 2 _)) 1 _,by omega,Y,L,HB.out,N.out.below (by repeat (first|exact Below.refl _ _|refine Below.setCell ?_ L _|refine V9 ?_ _))⟩,by repeat (first|exact gR _ _|refine gS ?_ (.inl rfl)|refine V8 ?_ _)⟩
 ·have X:¬ (i:Int)<(n:Int):=by omega
  go_enter func11,ntmps11
  go_wp2;generalize IntKind.u64.wrap (IntKind.u64.wrap (h*6364136223846793005)+1442695040888963407)=H;have K:=xy (H / 8589934592) 16777215 tO tO;generalize bits BinOp.and IntKind.u64 (H / 8589934592) 16777215=x at K;obtain ⟨R,T⟩:=K;have J:wrap64 x=x:=IntWalk.wrap64_in _ tO;rw [J];clear J
  go_quiet (fail)
  go_wp2;go_ret;exact ⟨⟨_,rfl,(pW _ M).1,(pW _ M).2⟩,⟨a,n,cap,i,H,bs,by simpa using iZ U.out 2 _,hi,Y,L,HB.out,N.out.below (V9 ((Below.refl _ _).setCell L _) _)⟩,V8 (gS (gR _ _) (.inl rfl)) _⟩
theorem mI (B g:Nat) (m:Int) (w:World) (h:DI w B g) (J:0<m) (F:m≤1000000):Calls prog 11 #[.pointer (some ⟨g,0,none⟩),.int .i64 m] w fun r w'=>xM (m - 1) r∧DI w' B g∧Gr g w w':=by
 obtain ⟨a,n,cap,i,h,bs,I,h1,h2,h3,G,H⟩:=h;exact JE B g n cap i a h m bs w I h1 h2 h3 G (aA H) J F
end
end Go.Proofs.YtffhjmepfojhnaaGreat
