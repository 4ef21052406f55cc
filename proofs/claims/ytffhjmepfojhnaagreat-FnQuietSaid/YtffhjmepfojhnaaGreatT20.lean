/-
  Asking who can be asked, of the reference model; lists lie in memory and hold at most 2 ^ 40 elements.
-/
import Derived.Test.YtffhjmepfojhnaaGreatT16
import Derived.Test.YtffhjmepfojhnaaGreatT06
import Derived.Test.YtffhjmepfojhnaaGreatT02
import Derived.Test.YtffhjmepfojhnaaGreatT13
set_option maxRecDepth 100000
set_option maxHeartbeats 4000000
set_option linter.unusedSimpArgs false
set_option linter.unusedVariables false
namespace Go.Proofs.YtffhjmepfojhnaaGreat
open _root_.Go.Proofs.Tryz
section
open Go.RowKit
attribute [local simp] dz
attribute [local go_sem ↓] dA dO dP jv bK
attribute [local go_sem] iG
section
variable {w:World} {b b' o i:Nat} {x:Ha}
theorem zy (F:b'<w.heap.size) (h:b'≠b):(jw w b o x).cell? ⟨b',i,none⟩=w.cell? ⟨b',i,none⟩:=vQ (l9 w b o x) F (by simpa using h) i
theorem uX (F:b'<w.heap.size) (h:b'≠b):(jw w b o x).frozen? ⟨b',i,none⟩=w.frozen? ⟨b',i,none⟩:=Iy (l9 w b o x) F (by simpa using h) i
theorem xU {lo n k:Nat} {F:TypeId} {v:Value} {G:List Value} (h:w.ownsRow lo F k v n G) (H:v.ownBlock≠some b):(jw w b o x).ownsRow lo F k v n G:=h.kept (l9 w b o x) (.inr H)
theorem PV {lo:Nat} {W:World} (h:Below lo w W) (G:lo≤W.heap.size) (H:lo≤b):Below lo w (jw W b o x):=mO h (l9 W b o x) G (fun k F=>by simp at F;omega)
theorem jd {v v':Value} {g:Nat} (h:v.ownBlock=none∨v.ownBlock≠v'.ownBlock) (e:v'.ownBlock=some g):v.ownBlock≠some g:=by
 rcases h with h|h
 ·rw [h];simp
 ·rw [← e];exact h
end
attribute [local go_sem] zy uX lQ
theorem PW (x:Wo) (who kk ee:Int) (a b d e:Option Addr) (p q r s:Nat) (w:World) (h1:gG w w a x.ch.cells) (z1:a=none→p=0) (h2:gI w w b x.ch.words) (z2:b=none→q=0) (h3:qX w w d x.hands) (z3:d=none→x.hands.length=0∧r=0) (h4:uh w w e x.deals) (z4:e=none→x.deals.length=0∧s=0) (m1:x.ch.cells.length≤1099511627776) (m2:x.ch.words.length≤1099511627776) (m3:x.hands.length≤1099511627776) (m4:x.deals.length≤1099511627776) (hk:dB x=true) (ht:bW x who=true) (hc:((called (aJ x who) kk ee).2 != 0)=false) (hn:(x.now == 20000)=false) (av:0≤x.now∧x.now≤20000) :
  Calls prog 132 #[oI x a b d e p q r s,.int .i64 who,.agg #[.int .i64 kk,.int .i64 ee]] w fun r w'=>ig w w' (asked x who kk ee).1 (.int .i64 (asked x who kk ee).2) r:=by
 have H1:=aA h1;have H2:=aA h2;have H3:=aA h3;have H4:=aA h4;have Z1:=aA z1;have Z2:=aA z2;have Z3:=aA z3;have Z4:=aA z4;clear h1 h2 h3 h4 z1 z2 z3 z4;obtain ⟨i,rfl⟩:∃ i:Nat,who=(i:Int):=⟨who.toNat,by simp [bW,gP,dV] at ht;omega⟩;have hi:i<x.hands.length:=by simp [bW,gP,dV] at ht;omega
 obtain ⟨V,o3,rfl,a3,a8⟩:∃ b o,d=some ⟨b,o,none⟩∧b<w.heap.size∧Hid (∀ i j,i<x.hands.length→j<14→w.cell? ⟨b,o+i*14+j,none⟩=some (fO x.hands i j)):=by
  rcases H3.out with h0|h0
  ·omega
  ·exact h0
 have an:∀ W:World,hp W V=hp w V→(nY (.pointer (some ⟨V,o3+i*14,none⟩))).run prog W=.ok (.agg (aB (aJ x i))) W:=fun W e=>lJ _ fun j hj=>by rw [show (aB (aJ x i)).getD j (.int .i64 0)=fO x.hands i j by simp [fO,aJ],← a8.out i j hi hj];exact World.cell?_of_block e
 have aq:(0:Int)≤(i:Int):=tO;have ar:(i:Int)<(x.hands.length:Int):=tO;have e0:asked x i kk ee=({ fQ x i { (called (aJ x i) kk ee).1 with beg:=x.now+1 } with now:=x.now+1 },0):=by simp at hc hn;simp [asked,hk,ht,hc,hn]
 rw [e0];have ac:gP x.hands i=true:=ht;clear e0 ht;go_enter func132,ntmps132;go_wp2_with fail;refine aK w zB fun X=>?_;refine (eY x a b _ e p q r s _ (aT H1 X) (aT H2 X) (aT H3 X) (aT H4 X) m3 m4).mono ?_;rintro _ w1 ⟨rfl,K⟩;have ai:Below w w w1:=bT X K;have a4:=K.size;(try simp at a4);have zz:=And.intro (fun o=>K.cell (p:=⟨w+1+1,o,none⟩) tS) <| And.intro (fun o=>K.frozen (p:=⟨w+1+1,o,none⟩) tS) <| And.intro (fun o=>K.cell (p:=⟨w+1,o,none⟩) tS) <| And.intro (fun o=>K.frozen (p:=⟨w+1,o,none⟩) tS) <| And.intro (fun o=>K.cell (p:=⟨w,o,none⟩) tS) <| fun o=>K.frozen (p:=⟨w,o,none⟩) tS;(try simp [go_sem] at zz);(try clear G H);(try clear J R);(try clear U Y);obtain ⟨G,H,J,R,U,Y⟩:=zz;(try clear F);have F:w+1+1<w1.heap.size:=tO;(try clear I);have I:w+1<w1.heap.size:=tO;(try clear T);have T:w<w1.heap.size:=tO;clear K X
 rw [hk];go_wp2_with fail;refine aK w zB fun X=>?_;refine (iq x.ch x.hands x.now i _ _ _ _ _ _ _ _ _ _ _ m3 _).mono ?_;rintro _ w2 ⟨rfl,L⟩;have aj:Below w w w2:=bT X L;have a5:=L.size;(try simp at a5);have zz:=And.intro (fun o=>L.cell (p:=⟨w+1+1,o,none⟩) tS) <| And.intro (fun o=>L.frozen (p:=⟨w+1+1,o,none⟩) tS) <| And.intro (fun o=>L.cell (p:=⟨w+1,o,none⟩) tS) <| And.intro (fun o=>L.frozen (p:=⟨w+1,o,none⟩) tS) <| And.intro (fun o=>L.cell (p:=⟨w,o,none⟩) tS) <| fun o=>L.frozen (p:=⟨w,o,none⟩) tS;(first|simp [go_sem,G,H,J,R,U,Y,T,I,F] at zz|simp [go_sem,G,J,U,T,I,F] at zz|simp [go_sem] at zz|skip);(try clear G H);(try clear J R);(try clear U Y);obtain ⟨G,H,J,R,U,Y⟩:=zz;(try clear F);have F:w+1+1<w2.heap.size:=tO;(try clear I);have I:w+1<w2.heap.size:=tO;(try clear T);have T:w<w2.heap.size:=tO;clear L X
 rw [ac];go_wp2_with fail;refine aK w zB fun X=>?_;refine (iR x a b _ e p q r s _ (aT H1 X) Z1.out (aT H2 X) Z2.out (aT H3 X) Z3.out (aT H4 X) Z4.out m1 m2 m3 m4).mono ?_;rintro _ N ⟨⟨v1,v2,v3,v4,rfl,o1,o2,a1,o4⟩,M⟩;have a2:Below w w N:=bT X M;have a6:=M.size;(try simp at a6);have zz:=And.intro (fun o=>M.cell (p:=⟨w+1+1,o,none⟩) tS) <| And.intro (fun o=>M.frozen (p:=⟨w+1+1,o,none⟩) tS) <| And.intro (fun o=>M.cell (p:=⟨w+1,o,none⟩) tS) <| And.intro (fun o=>M.frozen (p:=⟨w+1,o,none⟩) tS) <| And.intro (fun o=>M.cell (p:=⟨w,o,none⟩) tS) <| fun o=>M.frozen (p:=⟨w,o,none⟩) tS;(first|simp [go_sem,G,H,J,R,U,Y,T,I,F] at zz|simp [go_sem,G,J,U,T,I,F] at zz|simp [go_sem] at zz|skip);(try clear G H);(try clear J R);(try clear U Y);obtain ⟨G,H,J,R,U,Y⟩:=zz;(try clear F);have F:w+1+1<N.heap.size:=tO;(try clear I);have I:w+1<N.heap.size:=tO;(try clear T);have T:w<N.heap.size:=tO;clear M X
 try simp at o1 o2 a1 o4
 have O1:=aA o1;have O2:=aA o2;have O3:=aA a1;have O4:=aA o4;obtain ⟨va,vc,rfl,_⟩:=aF.seg o1;obtain ⟨vb,vd,rfl,_⟩:=aI.seg o2;obtain ⟨g,vg,rfl,au,lg,a9,aa⟩:=dY.open1 a1 hi;obtain ⟨vh,vi,rfl,_⟩:=gU.seg o4;clear o1 o2 a1 o4;have z3:hp N V=hp w V:=a2.block V a3;have aw:V<N.heap.size:=tO;have pq:V≠N.heap.size:=tO;have b6:g≠w.heap.size:=tO;have b7:g≠w.heap.size+1:=tO;have b8:g≠w.heap.size+1+1:=tO;have b9:g≠N.heap.size:=tO
 have ak:w.heap.size<g:=tO;have al:w.heap.size+1<g:=tO;have am:w.heap.size+1+1<g:=tO;have ap:(called (aJ x i) kk ee).2=0:=by simpa using hc
 have zk:((called (aJ x i) kk ee).2 != 0)=false:=hc;have ao:∀ (W:World) (y:Ha),hp W g=hp N g→(xx (.pointer (some ⟨g,i*14,none⟩)) (.agg (aB y))).run prog W=.ok () (jw W g (i*14) y):=fun W y e=>zx y (fun j hj=>⟨_,(World.cell?_of_block (show W.heap[g]?=N.heap[g]? from e)).trans (a9 j hj)⟩) (fun j=>(World.frozen?_of_block (show W.heap[g]?=N.heap[g]? from e)).trans (aa j))
 have ay:g<N.heap.size+1:=tO;have b0:w.heap.size≠g:=tO;have b1:w.heap.size+1≠g:=tO;have b2:w.heap.size+1+1≠g:=tO;have b4:N.heap.size≠g:=tO;have k0:w<N.heap.size:=tO;have k1:w+1<N.heap.size:=tO;have k2:w+1+1<N.heap.size:=tO;have ax:V<N.heap.size+1:=tO;have fP:V≠N.heap.size+1:=tO;go_wp2_with fail
 go_region_held3 (fun w'=>w'.cell? ⟨w,6,none⟩=some (.slice (some ⟨V,o3,none⟩) x.hands r)∧hp w' V=hp w V∧w'.cell? ⟨w+1,0,none⟩=some (.int .i64 kk)∧w'.cell? ⟨w+1,1,none⟩=some (.int .i64 ee))
  (first|(simp [*,go_sem]))
  (first|(go_at_call 176;refine (yE (aJ x i) kk ee _).mono ?_;rintro _ Z ⟨rfl,O⟩;have a7:Below w w Z:=bT zB O;have a0:Below N N Z:=bT zB O;have ab:=O.size;(try simp at ab);have x4:=fun o=>O.cell (p:=⟨w,o,none⟩) iU;have ag:=fun o=>O.cell (p:=⟨w+1,o,none⟩) iU;have y4:=fun o=>O.cell (p:=⟨w+1+1,o,none⟩) iU;have ah:=fun o=>O.frozen (p:=⟨w+1+1,o,none⟩) iU;have v4:=fun o=>O.cell (p:=⟨N,o,none⟩) iU;have af:=fun o=>O.frozen (p:=⟨N,o,none⟩) iU;have t4:=fun o=>O.cell (p:=⟨N+1,o,none⟩);have ad:=fun o=>O.frozen (p:=⟨N+1,o,none⟩);have ae:=o9 O (b:=N+1);have be:hp Z g=hp N g:=a0.block g lg;have az:g<Z.heap.size:=tO;have ba:g≠Z.heap.size:=tO;have bc:hp Z V=hp w V:=a7.block V a3;(simp [go_sem,U,T,k0] at x4);(simp [go_sem,J,I,k1] at ag);(simp [go_sem,G,F,k2] at y4);(simp [go_sem,H,F,k2] at ah);(simp [go_sem] at v4);(simp [go_sem] at af);(try simp [go_sem] at t4);(try simp [go_sem] at ad);(try simp [go_sem] at ae);have n0:w<Z.heap.size:=tO;have n1:w+1<Z.heap.size:=tO;have b5:w+1+1<Z.heap.size:=tO;have n2:N<Z.heap.size:=tO;have n3:V<Z.heap.size:=tO;have n4:V≠Z.heap.size:=tO))
 all_goals go_wp2
 all_goals (have o1:=own_below O1.out a0;have o2:=own_below O2.out a0;have o3:=own_below O3.out a0;have o4:=own_below O4.out a0;have q1:=O1.out;have q2:=O2.out;have q3:=O3.out;have q4:=O4.out;have p1:=aL (lo':=w) o1 tO;have p2:=aL (lo':=w) o2 tO;have p3:=aL (lo':=w) o3 tO;have p4:=aL (lo':=w) o4 tO;have e1:=jd (g:=g) (dF q1 q3 cB) rfl;have e2:=jd (g:=g) (dF q2 q3 cB) rfl;have e4:=jd (g:=g) (dF q4 q3 cB) rfl)
 all_goals (refine bodyPost_ret (v:=.tuple #[.agg #[x.ch.cap,x.ch.sent,x.ch.got,x.ch.fin,.slice va x.ch.cells vc,.slice vb x.ch.words vd,.slice (some ⟨g,0,none⟩) x.hands vg,.slice vh x.deals vi,.int .i64 (x.now+1)],.int .i64 0]) (by simp [results,results132,go_sem, *]) rfl ⟨⟨_,_,_,_,rfl,?_,?_,?_,?_⟩,by (repeat (first|with_reducible assumption|with_reducible refine bA ?_|with_reducible refine bD ?_|((with_reducible refine bS ?_ ?_);rotate_left;(focus ((try simp);(try omega))))|((with_reducible refine Ra ?_ ?_);rotate_left;(focus ((try simp);(try omega))))|((with_reducible refine PV ?_ ?_ ?_);rotate_left;(focus ((try simp);(try omega)));(focus ((try simp);(try omega))))))⟩)
 all_goals first|(show aF _ _ _ x.ch.cells;(repeat (first|with_reducible exact p1|with_reducible refine World.ownsRow.alloc ?_ _|with_reducible refine World.ownsRow.drew ?_|with_reducible refine xU ?_ e1|((with_reducible refine aV ?_ ?_ _);rotate_left;(focus (first|(refine own_ne q1 ?_;(try dsimp only);omega)|(refine dN q1 ?_;(try dsimp only);omega))))|((with_reducible refine fC ?_ ?_);rotate_left;(focus (first|(refine own_ne q1 ?_;(try dsimp only);omega)|(refine dN q1 ?_;(try dsimp only);omega))))));done)|skip
 all_goals first|(show aI _ _ _ x.ch.words;(repeat (first|with_reducible exact p2|with_reducible refine World.ownsRow.alloc ?_ _|with_reducible refine World.ownsRow.drew ?_|with_reducible refine xU ?_ e2|((with_reducible refine aV ?_ ?_ _);rotate_left;(focus (first|(refine own_ne q2 ?_;(try dsimp only);omega)|(refine dN q2 ?_;(try dsimp only);omega))))|((with_reducible refine fC ?_ ?_);rotate_left;(focus (first|(refine own_ne q2 ?_;(try dsimp only);omega)|(refine dN q2 ?_;(try dsimp only);omega))))));done)|skip
 all_goals first|(show dY _ _ _ (x.hands.set i _);(repeat (first|with_reducible exact p3|with_reducible refine World.ownsRow.alloc ?_ _|with_reducible refine World.ownsRow.drew ?_|with_reducible refine dY.set ?_ hi _|((with_reducible refine aV ?_ ?_ _);rotate_left;(focus (first|(refine own_ne q3 ?_;(try dsimp only);omega)|(refine dN q3 ?_;(try dsimp only);omega))))|((with_reducible refine fC ?_ ?_);rotate_left;(focus (first|(refine own_ne q3 ?_;(try dsimp only);omega)|(refine dN q3 ?_;(try dsimp only);omega))))));done)|skip
 all_goals first|(show gU _ _ _ x.deals;(repeat (first|with_reducible exact p4|with_reducible refine World.ownsRow.alloc ?_ _|with_reducible refine World.ownsRow.drew ?_|with_reducible refine xU ?_ e4|((with_reducible refine aV ?_ ?_ _);rotate_left;(focus (first|(refine own_ne q4 ?_;(try dsimp only);omega)|(refine dN q4 ?_;(try dsimp only);omega))))|((with_reducible refine fC ?_ ?_);rotate_left;(focus (first|(refine own_ne q4 ?_;(try dsimp only);omega)|(refine dN q4 ?_;(try dsimp only);omega))))));done)|skip
end
section
open Go.RowKit
attribute [local simp] dz
attribute [local go_sem ↓] dA dO dP jv bK
attribute [local go_sem] iG
attribute [local go_sem ↓] Pb
end
section
open Go.RowKit
def UF (x:Value):Sem Value:=Instr.loadAt 44 x
theorem SL (x:Value):Instr.loadAt 44 x=UF x:=by unfold UF;simp
def PX (x:Value):Sem Value:=Instr.loadAt 167 x
theorem PY (x:Value):Instr.loadAt 167 x=PX x:=by unfold PX;simp
def UG (x v:Value):Sem Unit:=Instr.storeAt 44 x v
theorem SQ (x v:Value):Instr.storeAt 44 x v=UG x v:=by unfold UG;simp
attribute [local go_sem ↓] SL PY SQ
end
section
open Go.RowKit
def lX (w:World) (B:Nat) (x:Wo) (a b d e:Option Addr):Prop:=gG w B a x.ch.cells∧gI w B b x.ch.words∧qX w B d x.hands∧uh w B e x.deals
def qi (x:Wo):Prop:=x.ch.cells.length≤1048576∧x.ch.words.length≤1048576∧x.hands.length≤1048576∧x.deals.length≤1048576
end
end Go.Proofs.YtffhjmepfojhnaaGreat
