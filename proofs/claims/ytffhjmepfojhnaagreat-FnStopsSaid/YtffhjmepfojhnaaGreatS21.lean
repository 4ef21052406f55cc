/-
  Asking who can be asked, of the reference model; lists lie in memory and hold at most 2 ^ 40 elements.
-/
import Derived.Test.YtffhjmepfojhnaaGreatS17
import Derived.Test.YtffhjmepfojhnaaGreatS16
import Derived.BigRegion
import Derived.Deep.DeepCutAuto
import Derived.Deep.RegionHeld3
import Derived.Test.YtffhjmepfojhnaaGreatS06
import Derived.Test.YtffhjmepfojhnaaGreatS02
import Derived.Test.YtffhjmepfojhnaaGreatS07
import Derived.WalkLawsBesides
import Derived.Test.YtffhjmepfojhnaaGreatS03
set_option maxRecDepth 100000
set_option maxHeartbeats 4000000
set_option linter.unusedSimpArgs false
set_option linter.unusedVariables false
namespace Go.Proofs.YtffhjmepfojhnaaGreat
open _root_.Go.Proofs.Tryz
section
open Go.RowKit
attribute [local simp] aP
attribute [local go_sem ↓] aQ aY aZ gK aN
attribute [local go_sem] fF
section
variable {w:World} {b b' o i:Nat} {x:Ha}
theorem sw (m:b'<w.heap.size) (h:b'≠b):(ig w b o x).cell? ⟨b',i,none⟩=w.cell? ⟨b',i,none⟩:=sW (fM w b o x) m (by simpa using h) i
theorem nZ (m:b'<w.heap.size) (h:b'≠b):(ig w b o x).frozen? ⟨b',i,none⟩=w.frozen? ⟨b',i,none⟩:=Et (fM w b o x) m (by simpa using h) i
theorem tQ {lo n k:Nat} {m:TypeId} {v:Value} {q:List Value} (h:w.ownsRow lo m k v n q) (r:v.ownBlock≠some b):(ig w b o x).ownsRow lo m k v n q:=h.kept (fM w b o x) (.inr r)
theorem LZ {lo:Nat} {W:World} (h:Below lo w W) (q:lo≤W.heap.size) (r:lo≤b):Below lo w (ig W b o x):=iN h (fM W b o x) q (fun k m=>by simp at m;omega)
theorem gI {v m:Value} {g:Nat} (h:v.ownBlock=none∨v.ownBlock≠m.ownBlock) (e:m.ownBlock=some g):v.ownBlock≠some g:=by
 rcases h with h|h
 ·rw [h];simp
 ·rw [← e];exact h
end
attribute [local go_sem] sw nZ jL
theorem Ma (x:Wo) (who X V:Int) (a b d e:Option Addr) (p q r s:Nat) (w:World) (h1:fA w w a x.ch.cells) (z1:a=none→p=0) (h2:fD w w b x.ch.words) (z2:b=none→q=0) (h3:pF w w d x.hands) (z3:d=none→x.hands.length=0∧r=0) (h4:pG w w e x.deals) (z4:e=none→x.deals.length=0∧s=0) (m1:x.ch.cells.length≤1099511627776) (m2:x.ch.words.length≤1099511627776) (m3:x.hands.length≤1099511627776) (m4:x.deals.length≤1099511627776) (hk:bC x=true) (ht:cK x who=true) (hc:((called (aL x who) X V).2 != 0)=false) (hn:(x.now == 20000)=false) (ar:0≤x.now∧x.now≤20000) :
  Calls prog 132 #[kZ x a b d e p q r s,.int .i64 who,.agg #[.int .i64 X,.int .i64 V]] w fun r w'=>fE w w' (asked x who X V).1 (.int .i64 (asked x who X V).2) r:=by
 have H1:=aA h1
 have H2:=aA h2
 have H3:=aA h3
 have H4:=aA h4
 have Z1:=aA z1
 have Z2:=aA z2
 have Z3:=aA z3
 have Z4:=aA z4
 clear h1 h2 h3 h4 z1 z2 z3 z4
 obtain ⟨i,rfl⟩:∃ i:Nat,who=(i:Int):=⟨who.toNat,by simp [cK,eH,dA] at ht;omega⟩
 have hi:i<x.hands.length:=by simp [cK,eH,dA] at ht;omega
 obtain ⟨M,o3,rfl,a1,a6⟩:∃ b o,d=some ⟨b,o,none⟩∧b<w.heap.size∧Hid (∀ i j,i<x.hands.length→j<14→w.cell? ⟨b,o+i*14+j,none⟩=some (dY x.hands i j)):=by
  rcases H3.out with h0|h0
  ·omega
  ·exact h0
 have al:∀ W:World,hp W M=hp w M→(jU (.pointer (some ⟨M,o3+i*14,none⟩))).run prog W=.ok (.agg (aB (aL x i))) W:=fun W e=>jh _ fun j hj=>by rw [show (aB (aL x i)).getD j (.int .i64 0)=dY x.hands i j by simp [dY,aL],← a6.out i j hi hj];exact World.cell?_of_block e
 have ao:(0:Int)≤(i:Int):=by omega
 have ap:(i:Int)<(x.hands.length:Int):=by omega
 have e0:asked x i X V=({ gY x i { (called (aL x i) X V).1 with beg:=x.now+1 } with now:=x.now+1 },0):=by simp at hc hn;simp [asked,hk,ht,hc,hn]
 rw [e0]
 have aa:eH x.hands i=true:=ht
 clear e0 ht
 go_enter func132,ntmps132
 go_wp2_with fail;refine aK w zB fun N=>?_;refine (fG x a b _ e p q r s _ (aT H1 N) (aT H2 N) (aT H3 N) (aT H4 N) m3 m4).mono ?_;rintro _ w1 ⟨rfl,E⟩;have ag:Below w w w1:=bT N E;have a2:=E.size;(try simp at a2);have T:=And.intro (fun o=>E.cell (p:=⟨w+1+1,o,none⟩) tS) <| And.intro (fun o=>E.frozen (p:=⟨w+1+1,o,none⟩) tS) <| And.intro (fun o=>E.cell (p:=⟨w+1,o,none⟩) tS) <| And.intro (fun o=>E.frozen (p:=⟨w+1,o,none⟩) tS) <| And.intro (fun o=>E.cell (p:=⟨w,o,none⟩) tS) <| fun o=>E.frozen (p:=⟨w,o,none⟩) tS;(try simp [go_sem] at T);(try clear u z);(try clear D J);(try clear L O);obtain ⟨u,z,D,J,L,O⟩:=T;(try clear m);have m:w+1+1<w1.heap.size:=tO;(try clear A);have A:w+1<w1.heap.size:=tO;(try clear K);have K:w<w1.heap.size:=tO;clear E N
 rw [hk]
 go_wp2_with fail;refine aK w zB fun N=>?_;refine (jG x.ch x.hands x.now i _ _ _ _ _ _ _ _ _ _ _ m3 _).mono ?_;rintro _ w2 ⟨rfl,F⟩;have ah:Below w w w2:=bT N F;have a3:=F.size;(try simp at a3);have T:=And.intro (fun o=>F.cell (p:=⟨w+1+1,o,none⟩) tS) <| And.intro (fun o=>F.frozen (p:=⟨w+1+1,o,none⟩) tS) <| And.intro (fun o=>F.cell (p:=⟨w+1,o,none⟩) tS) <| And.intro (fun o=>F.frozen (p:=⟨w+1,o,none⟩) tS) <| And.intro (fun o=>F.cell (p:=⟨w,o,none⟩) tS) <| fun o=>F.frozen (p:=⟨w,o,none⟩) tS;(first|simp [go_sem,u,z,D,J,L,O,K,A,m] at T|simp [go_sem,u,D,L,K,A,m] at T|simp [go_sem] at T|skip);(try clear u z);(try clear D J);(try clear L O);obtain ⟨u,z,D,J,L,O⟩:=T;(try clear m);have m:w+1+1<w2.heap.size:=tO;(try clear A);have A:w+1<w2.heap.size:=tO;(try clear K);have K:w<w2.heap.size:=tO;clear F N
 rw [aa]
 go_wp2_with fail;refine aK w zB fun N=>?_;refine (iE x a b _ e p q r s _ (aT H1 N) Z1.out (aT H2 N) Z2.out (aT H3 N) Z3.out (aT H4 N) Z4.out m1 m2 m3 m4).mono ?_;rintro _ H ⟨⟨v1,v2,v3,v4,rfl,o1,o2,Y,o4⟩,G⟩;have a0:Below w w H:=bT N G;have a4:=G.size;(try simp at a4);have T:=And.intro (fun o=>G.cell (p:=⟨w+1+1,o,none⟩) tS) <| And.intro (fun o=>G.frozen (p:=⟨w+1+1,o,none⟩) tS) <| And.intro (fun o=>G.cell (p:=⟨w+1,o,none⟩) tS) <| And.intro (fun o=>G.frozen (p:=⟨w+1,o,none⟩) tS) <| And.intro (fun o=>G.cell (p:=⟨w,o,none⟩) tS) <| fun o=>G.frozen (p:=⟨w,o,none⟩) tS;(first|simp [go_sem,u,z,D,J,L,O,K,A,m] at T|simp [go_sem,u,D,L,K,A,m] at T|simp [go_sem] at T|skip);(try clear u z);(try clear D J);(try clear L O);obtain ⟨u,z,D,J,L,O⟩:=T;(try clear m);have m:w+1+1<H.heap.size:=tO;(try clear A);have A:w+1<H.heap.size:=tO;(try clear K);have K:w<H.heap.size:=tO;clear G N
 try simp at o1 o2 Y o4
 have O1:=aA o1
 have O2:=aA o2
 have O3:=aA Y
 have O4:=aA o4
 obtain ⟨va,vc,rfl,_⟩:=aD.seg o1
 obtain ⟨vb,vd,rfl,_⟩:=aG.seg o2
 obtain ⟨g,vg,rfl,aq,lg,a7,a8⟩:=cO.open1 Y hi
 obtain ⟨vh,vi,rfl,_⟩:=dV.seg o4
 clear o1 o2 Y o4
 have z3:hp H M=hp w M:=a0.block M a1
 have au:M<H.heap.size:=by omega
 have ql:M≠H.heap.size:=by omega
 have b4:g≠w.heap.size:=by omega
 have b5:g≠w.heap.size+1:=by omega
 have b6:g≠w.heap.size+1+1:=by omega
 have b7:g≠H.heap.size:=by omega
 have ai:w.heap.size<g:=by omega
 have aj:w.heap.size+1<g:=by omega
 have ak:w.heap.size+1+1<g:=by omega
 have an:(called (aL x i) X V).2=0:=by simpa using hc
 have zk:((called (aL x i) X V).2 != 0)=false:=hc
 have am:∀ (W:World) (y:Ha),hp W g=hp H g→(pY (.pointer (some ⟨g,i*14,none⟩)) (.agg (aB y))).run prog W=.ok () (ig W g (i*14) y):=fun W y e=>qp y (fun j hj=>⟨_,(World.cell?_of_block (show W.heap[g]?=H.heap[g]? from e)).trans (a7 j hj)⟩) (fun j=>(World.frozen?_of_block (show W.heap[g]?=H.heap[g]? from e)).trans (a8 j))
 have aw:g<H.heap.size+1:=by omega
 have ay:w.heap.size≠g:=by omega
 have az:w.heap.size+1≠g:=by omega
 have b0:w.heap.size+1+1≠g:=by omega
 have b1:H.heap.size≠g:=by omega
 have k0:w<H.heap.size:=by omega
 have k1:w+1<H.heap.size:=by omega
 have k2:w+1+1<H.heap.size:=by omega
 have av:M<H.heap.size+1:=by omega
 have dW:M≠H.heap.size+1:=by omega
 go_wp2_with fail
 go_region_held3 (fun w'=>w'.cell? ⟨w,6,none⟩=some (.slice (some ⟨M,o3,none⟩) x.hands r)∧hp w' M=hp w M∧w'.cell? ⟨w+1,0,none⟩=some (.int .i64 X)∧w'.cell? ⟨w+1,1,none⟩=some (.int .i64 V))
  (first|(simp [*,go_sem]))
  (first|(go_at_call 176;refine (uz (aL x i) X V _).mono ?_;rintro _ R ⟨rfl,I⟩;have a5:Below w w R:=bT zB I;have U:Below H H R:=bT zB I;have a9:=I.size;(try simp at a9);have x4:=fun o=>I.cell (p:=⟨w,o,none⟩) (by ((try simp) <;> (try omega)));have ae:=fun o=>I.cell (p:=⟨w+1,o,none⟩) (by ((try simp) <;> (try omega)));have y4:=fun o=>I.cell (p:=⟨w+1+1,o,none⟩) (by ((try simp) <;> (try omega)));have af:=fun o=>I.frozen (p:=⟨w+1+1,o,none⟩) (by ((try simp) <;> (try omega)));have v4:=fun o=>I.cell (p:=⟨H,o,none⟩) (by ((try simp) <;> (try omega)));have ad:=fun o=>I.frozen (p:=⟨H,o,none⟩) (by ((try simp) <;> (try omega)));have t4:=fun o=>I.cell (p:=⟨H+1,o,none⟩);have ab:=fun o=>I.frozen (p:=⟨H+1,o,none⟩);have ac:=oW I (b:=H+1);have ba:hp R g=hp H g:=U.block g lg;have ax:g<R.heap.size:=tO;have b8:g≠R.heap.size:=tO;have b9:hp R M=hp w M:=a5.block M a1;(simp [go_sem,L,K,k0] at x4);(simp [go_sem,D,A,k1] at ae);(simp [go_sem,u,m,k2] at y4);(simp [go_sem,z,m,k2] at af);(simp [go_sem] at v4);(simp [go_sem] at ad);(try simp [go_sem] at t4);(try simp [go_sem] at ab);(try simp [go_sem] at ac);have n0:w<R.heap.size:=tO;have n1:w+1<R.heap.size:=tO;have b2:w+1+1<R.heap.size:=tO;have n2:H<R.heap.size:=tO;have n3:M<R.heap.size:=tO;have n4:M≠R.heap.size:=tO))
 all_goals go_wp2
 all_goals (have o1:=own_below O1.out U;have o2:=own_below O2.out U;have o3:=own_below O3.out U;have o4:=own_below O4.out U;have q1:=O1.out;have q2:=O2.out;have Z:=O3.out;have q4:=O4.out;have p1:=aH (lo':=w) o1 tO;have p2:=aH (lo':=w) o2 tO;have p3:=aH (lo':=w) o3 tO;have p4:=aH (lo':=w) o4 tO;have e1:=gI (g:=g) (dD q1 Z (by decide)) rfl;have e2:=gI (g:=g) (dD q2 Z (by decide)) rfl;have e4:=gI (g:=g) (dD q4 Z (by decide)) rfl)
 all_goals (refine bodyPost_ret (v:=.tuple #[.agg #[x.ch.cap,x.ch.sent,x.ch.got,x.ch.fin,.slice va x.ch.cells vc,.slice vb x.ch.words vd,.slice (some ⟨g,0,none⟩) x.hands vg,.slice vh x.deals vi,.int .i64 (x.now+1)],.int .i64 0]) (by simp [results,results132,go_sem, *]) rfl ⟨⟨_,_,_,_,rfl,?_,?_,?_,?_⟩,by (repeat (first|with_reducible assumption|with_reducible refine bA ?_|with_reducible refine bD ?_|((with_reducible refine bS ?_ ?_);rotate_left;(focus ((try simp);(try omega))))|((with_reducible refine BK ?_ ?_);rotate_left;(focus ((try simp);(try omega))))|((with_reducible refine LZ ?_ ?_ ?_);rotate_left;(focus ((try simp);(try omega)));(focus ((try simp);(try omega))))))⟩)
 all_goals first|(show aD _ _ _ x.ch.cells;(repeat (first|with_reducible exact p1|with_reducible refine World.ownsRow.alloc ?_ _|with_reducible refine World.ownsRow.drew ?_|with_reducible refine tQ ?_ e1|((with_reducible refine aI ?_ ?_ _);rotate_left;(focus (first|(refine own_ne q1 ?_;(try dsimp only);omega)|(refine dN q1 ?_;(try dsimp only);omega))))|((with_reducible refine dZ ?_ ?_);rotate_left;(focus (first|(refine own_ne q1 ?_;(try dsimp only);omega)|(refine dN q1 ?_;(try dsimp only);omega))))));done)|skip
 all_goals first|(show aG _ _ _ x.ch.words;(repeat (first|with_reducible exact p2|with_reducible refine World.ownsRow.alloc ?_ _|with_reducible refine World.ownsRow.drew ?_|with_reducible refine tQ ?_ e2|((with_reducible refine aI ?_ ?_ _);rotate_left;(focus (first|(refine own_ne q2 ?_;(try dsimp only);omega)|(refine dN q2 ?_;(try dsimp only);omega))))|((with_reducible refine dZ ?_ ?_);rotate_left;(focus (first|(refine own_ne q2 ?_;(try dsimp only);omega)|(refine dN q2 ?_;(try dsimp only);omega))))));done)|skip
 all_goals first|(show cO _ _ _ (x.hands.set i _);(repeat (first|with_reducible exact p3|with_reducible refine World.ownsRow.alloc ?_ _|with_reducible refine World.ownsRow.drew ?_|with_reducible refine cO.set ?_ hi _|((with_reducible refine aI ?_ ?_ _);rotate_left;(focus (first|(refine own_ne Z ?_;(try dsimp only);omega)|(refine dN Z ?_;(try dsimp only);omega))))|((with_reducible refine dZ ?_ ?_);rotate_left;(focus (first|(refine own_ne Z ?_;(try dsimp only);omega)|(refine dN Z ?_;(try dsimp only);omega))))));done)|skip
 all_goals first|(show dV _ _ _ x.deals;(repeat (first|with_reducible exact p4|with_reducible refine World.ownsRow.alloc ?_ _|with_reducible refine World.ownsRow.drew ?_|with_reducible refine tQ ?_ e4|((with_reducible refine aI ?_ ?_ _);rotate_left;(focus (first|(refine own_ne q4 ?_;(try dsimp only);omega)|(refine dN q4 ?_;(try dsimp only);omega))))|((with_reducible refine dZ ?_ ?_);rotate_left;(focus (first|(refine own_ne q4 ?_;(try dsimp only);omega)|(refine dN q4 ?_;(try dsimp only);omega))))));done)|skip
end
section
open Go.RowKit
attribute [local simp] aP
attribute [local go_sem ↓] aQ bF aY bY aZ bZ aX bB aN aU
theorem qI (c:Ch) (h:Ha) (H I:Value) (lo:Nat) (w:World) (h1:aD w lo H c.cells) (X:aG w lo I c.words) (a3:0≤h.cell) (a4:h.cell<c.cells.length) :
    (∀ (M:bQ c h.cell h.seen 2 0=true),Calls prog 251 #[.agg (aF c H I),.agg (aB h)] w fun r w'=>dJ w w' lo H I ((bK c h.cell h.seen 2 0,aV 1 0,true)) r) ∧
    (∀ (M:bQ c h.cell h.seen 2 0=false),Calls prog 251 #[.agg (aF c H I),.agg (aB h)] w fun r w'=>dJ w w' lo H I ((bK c h.cell h.seen 2 0,{ h with pos:=3 },true)) r):=by
  constructor
  case' left =>
    intro M
    have mA:Hid (0=0):=rfl
  case' right =>
    intro M
    have mB:Hid (0=0):=rfl
  all_goals
    obtain ⟨i,K⟩:∃ i:Nat,h.cell=(i:Int):=⟨h.cell.toNat,by omega⟩
    have hi:i<c.cells.length:=by omega
    have T:=aA fun W a b=>l8 c i h.seen 2 0 H I lo W a b hi
    have F:=M
    rw [K] at F
    rw [F] at T
    have e0:bK c h.cell h.seen 2 0=bK c i h.seen 2 0:=by rw [K]
    rw [e0]
    have b1:=kY h1
    have b2:=kY X
    have Y:=nO b1
    have Z:=nO b2
    have a6:=Y (w.heap.size) tO
    have aa:=Z (w.heap.size) tO
    have a7:=Y (w+1) tO
    have ab:=Z (w+1) tO
    have a8:=Y (w+1+1) tO
    have ac:=Z (w+1+1) tO
    have a9:=Y (w+1+1+1) tO
    have ad:=Z (w+1+1+1) tO
    have N:=h1
    have O:=X
    obtain ⟨z,D,e1,_⟩:=h1.seg
    obtain ⟨A,E,e2,_⟩:=X.seg
    subst e1 e2
    clear h1 X M F e0 a3 a4
    go_enter func251,ntmps251
    go_wp2_with fail;refine (T.out _ (zO N N) (zO O O)).mono ?_;rintro _ w1 ⟨rfl,R,U,q⟩;have L:=q.size;(try (simp at L));have u:=PM q (b:=w);(try simp [go_sem] at u);replace V:=dW u;clear u;have J:=I6 (w:=w) zB q;clear q
    have a5:jI (Value.slice z c.cells D).ownBlock (Value.slice A c.words E).ownBlock w w1:=mY J
    obtain ⟨k0,k1,k2,k3⟩:=mF (a:=w) (b:=w1)
    have r1:aD w1 lo (.slice z c.cells D) (bK c i h.seen 2 0).cells:=R
    have r2:aG w1 lo (.slice A c.words E) (bK c i h.seen 2 0).words:=U
    clear R U
    go_wp2_with fail
    first
    | (replace mA:=mA
       go_region_held3 (fun w'=>hp w' w=some (.cells (aF c (.slice z c.cells D) (.slice A c.words E)) 31)∧hp w' (w+1)=some (.cells (aB h) 49))
         (first|(simp [*,go_sem]))
         (first|(go_at_call 48;refine (iF _ _ _).mono ?_;rintro _ G ⟨rfl,m⟩;have a0:jI (Value.slice z c.cells D).ownBlock (Value.slice A c.words E).ownBlock w G:=gU zN (dR m);have R:aD G lo (.slice z c.cells D) (bK c i h.seen 2 0).cells:=own_below (zO r1 N) m;have U:aG G lo (.slice A c.words E) c.words:=own_below (zO r2 O) m;have y:=m.size;(try simp at y);have u:=BL m (b:=w);(first|simp [go_sem,V,k0,k1,k2,k3] at u|simp [go_sem] at u|skip);replace V:=dW u;clear u m)))
    | (replace mB:=mB
       go_region_held3 (fun w'=>hp w' w=some (.cells (aF c (.slice z c.cells D) (.slice A c.words E)) 31)∧hp w' (w+1)=some (.cells (aB h) 49))
         (first|(simp [*,go_sem]))
         (first|(go_at_call 247;refine (dL _ _ _).mono ?_;rintro _ G ⟨rfl,m⟩;have a0:jI (Value.slice z c.cells D).ownBlock (Value.slice A c.words E).ownBlock w G:=gU zN (dR m);have R:aD G lo (.slice z c.cells D) (bK c i h.seen 2 0).cells:=own_below (zO r1 N) m;have U:aG G lo (.slice A c.words E) c.words:=own_below (zO r2 O) m;have y:=m.size;(try simp at y);have u:=BL m (b:=w);(first|simp [go_sem,V,k0,k1,k2,k3] at u|simp [go_sem] at u|skip);replace V:=dW u;clear u m)))
    go_wp2
    first
    | (replace mA:=mA;refine rE results251 rfl (aO c (.slice z c.cells D) (.slice A c.words E) tZ) rfl (aJ (aV 1 0) tZ) ⟨⟨_,_,rfl,?_,?_,aM _ _,aM _ _⟩,by exact zN⟩)
    | (replace mB:=mB;refine rE results251 rfl (aO c (.slice z c.cells D) (.slice A c.words E) tZ) rfl (aJ { h with pos:=3 } tZ) ⟨⟨_,_,rfl,?_,?_,aM _ _,aM _ _⟩,by exact zN⟩)
    · exact zO R N
    · exact zO U O
theorem Ap (c:Ch) (h:Ha) (m q:Value) (lo:Nat) (w:World) (h1:aD w lo m c.cells) (z:aG w lo q c.words) (u:0≤h.cell) (y:h.cell<c.cells.length) (A:bQ c h.cell h.seen 2 0=true) :
    Calls prog 251 #[.agg (aF c m q),.agg (aB h)] w fun r w'=>dJ w w' lo m q ((bK c h.cell h.seen 2 0,aV 1 0,true)) r:=(qI c h m q lo w h1 z u y).1 A
theorem Aq (c:Ch) (h:Ha) (m q:Value) (lo:Nat) (w:World) (h1:aD w lo m c.cells) (z:aG w lo q c.words) (u:0≤h.cell) (y:h.cell<c.cells.length) (A:bQ c h.cell h.seen 2 0=false) :
    Calls prog 251 #[.agg (aF c m q),.agg (aB h)] w fun r w'=>dJ w w' lo m q ((bK c h.cell h.seen 2 0,{ h with pos:=3 },true)) r:=(qI c h m q lo w h1 z u y).2 A
theorem Fz {c:Ch} {i f t v:Int} (h:bQ c i f t v=false):bK c i f t v=c:=by
  have e:lG (cellAt c i) f t v=cellAt c i:=by
    have r:jS (cellAt c i).s (cellAt c i).e (cellAt c i).t f t v=false:=h
    simp [lG,ng,vz,r]
  unfold bK setAt
  rw [e]
  unfold cellAt
  have:c.cells.set i.toNat (c.cells.getD i.toNat ⟨0,0,0⟩)=c.cells:=by
    apply List.ext_getElem?
    intro n
    rw [List.getElem?_set]
    by_cases q:i.toNat=n
    · subst q
      by_cases m:i.toNat<c.cells.length
      · simp [m]
      · simp [m,Nat.le_of_not_lt m]
    · simp [q]
  rw [this]
theorem Dp (c:Ch) (h:Ha) (r u:Value) (lo:Nat) (w:World) (h1:aD w lo r c.cells) (z:aG w lo u c.words) (m:0≤h.cell) (q:h.cell<c.cells.length) (y:bQ c h.cell h.seen 2 0=false) :
    dG 251 c h r u lo w ((c,{ h with pos:=3 },true)):=by
  have:=Aq c h r u lo w h1 z m q y
  rwa [Fz y] at this
end
section
open Go.RowKit
attribute [local simp] aP
attribute [local go_sem ↓] aQ aY aZ gK aN
attribute [local go_sem] fF
attribute [local go_sem ↓] KW
theorem Ia (n:Nat) (h:n≤1048576) (W:World):(Instr.makeSlice 32 (.int .i64 n) (.int .i64 n)).run prog W=.ok (.slice (some ⟨W,0,none⟩) n n) (W.alloc (.cells (madeCells (aB Ha.zero) (n*14)) 49)):=by
 obtain ⟨i,q,r,hs,m⟩:=info_parts tJ
 have:=run_make (P:=prog) W 32 49 i _ underlying32 q r .i64 .i64 n n tO tO (by rw [m];omega) tO
 rw [this,hs]
 simp [Value.cells]
end
section
open Go.RowKit
attribute [local simp] aP
attribute [local go_sem ↓] aQ bF aY bY aZ bZ aX bB aN aU
def lC (h:Ha) (x:Int):Ha:=if x == 0 then h else if x == 2 then { h with pos:=25 } else if h.code == 1 then aV 1 0 else { h with pos:=24 }
theorem zx (c:Ch) (v:Int) (m u:Value) (lo:Nat) (w:World) (h1:aD w lo m c.cells) (A:aG w lo u c.words) (D:aW c=true) :
  Calls prog 280 #[.agg (aF c m u),.int .i64 v] w fun r w'=>r=.returned (.int .i64 (iZ c v))∧Below w w w':=by
 obtain ⟨n1,E⟩:=kK D
 obtain ⟨a,p,rfl,y⟩:=h1.seg
 obtain ⟨b,q,rfl,z⟩:=A.seg
 exact ES c v a b p q w y z (by unfold maxLen;omega) (by unfold maxLen;omega)
theorem mq (c:Ch) (h:Ha) (u y:Value) (lo:Nat) (w:World) (h1:aD w lo u c.cells) (E:aG w lo y c.words) (L:aW c=true) (x:Int) (G:iZ c h.mine=x) (hp:¬ x<0) :
  Calls prog 276 #[.agg (aF c u y),.agg (aB h)] w fun r w'=>r=.returned (.int .i64 x)∧Below w w w':=by
 have A:=aA fun W a b=>zx c h.mine u y lo W a b L
 rw [G] at A
 clear G
 obtain ⟨M,U,N,V,rfl,rfl,J,K,O,R⟩:=rR h1 E
 clear h1 E
 have H:=J.out
 have I:=K.out
 go_enter func276,ntmps276
 go_wp2_with fail;refine aK w zB fun D=>?_;refine (A.out _ (zO H H) (zO I I)).mono ?_;rintro _ X ⟨rfl,m⟩;obtain ⟨F,q,z⟩:=BM D m (b:=w);(try simp at q);(try simp [go_sem] at z);replace T:=uV z;clear z m D
 go_wp2
 go_ret
 exact ⟨rfl,by exact zB⟩
theorem F5 (c:Ch) (h:Ha) (r u:Value) (lo:Nat) (w:World) (h1:aD w lo r c.cells) (D:aG w lo u c.words) (L:aW c=true) (F:iZ c h.mine=-1) :
  Calls prog 276 #[.agg (aF c r u),.agg (aB h)] w fun e K=>∃ T s,e=.panicked [{ v:=.iface T s,recovered:=false }]∧Below w w K:=by
 have z:=aA fun W a b=>zx c h.mine r u lo W a b L
 rw [F] at z
 clear F
 obtain ⟨M,V,N,X,rfl,rfl,I,J,O,R⟩:=rR h1 D
 clear h1 D
 have G:=I.out
 have H:=J.out
 go_enter func276,ntmps276
 go_wp2_with fail;refine aK w zB fun A=>?_;refine (z.out _ (zO G G) (zO H H)).mono ?_;rintro _ Y ⟨rfl,m⟩;obtain ⟨E,q,y⟩:=BM A m (b:=w);(try simp at q);(try simp [go_sem] at y);replace U:=uV y;clear y m A
 go_wp2
 exact ⟨rfl,_,_,rfl,by exact zB⟩
theorem F6 (k e:Int) (w:World):Calls prog 279 #[.agg #[.int .i64 k,.int .i64 e]] w fun r w'=>r=.returned (.int .i64 (if k == 1 then 9 else 10))∧Below w w w':=by
 go_enter func279,ntmps279
 go_wp2
 all_goals go_ret
 all_goals exact ⟨ou (by simp_all),by exact zB⟩
theorem OM (h:Ha) (x:Int) (w:World) (m:x=0):Calls prog 277 #[.agg (aB h),.int .i64 x] w fun r w'=>r=.returned (.agg (aB h))∧Below w w w':=by
 go_enter func277,ntmps277
 subst m
 go_wp2
 exact bodyPost_ret (jy results277 rfl (aJ h tZ)) rfl ⟨rfl,by exact zB⟩
theorem OO (h:Ha) (x:Int) (w:World) (A:x=2):Calls prog 277 #[.agg (aB h),.int .i64 x] w fun r w'=>r=.returned (.agg (aB { h with pos:=25 }))∧Below w w w':=by
 go_enter func277,ntmps277
 subst A
 go_wp2_with fail;refine aK w zB fun y=>?_;refine (dL _ _ _).mono ?_;rintro _ E ⟨rfl,m⟩;obtain ⟨z,q,u⟩:=BM y m (b:=w);(try simp at q);(try simp [go_sem] at u);replace D:=uV u;clear u m y
 go_wp2
 exact bodyPost_ret (jy results277 rfl (aJ { h with pos:=25 } tZ)) rfl ⟨rfl,by exact zB⟩
theorem OP (h:Ha) (x:Int) (w:World) (D:(x == 0)=false) (E:(x == 2)=false) (F:(h.code == 1)=true):Calls prog 277 #[.agg (aB h),.int .i64 x] w fun r w'=>r=.returned (.agg (aB (aV 1 0)))∧Below w w w':=by
 go_enter func277,ntmps277
 go_wp2_with fail;refine aK w zB fun y=>?_;refine (iF _ _ _).mono ?_;rintro _ G ⟨rfl,m⟩;obtain ⟨z,q,u⟩:=BM y m (b:=w);(try simp at q);(try simp [go_sem] at u);replace A:=uV u;clear u m y
 go_wp2
 exact bodyPost_ret (jy results277 rfl (aJ (aV 1 0) tZ)) rfl ⟨rfl,by exact zB⟩
theorem OQ (h:Ha) (x:Int) (w:World) (D:(x == 0)=false) (E:(x == 2)=false) (F:(h.code == 1)=false):Calls prog 277 #[.agg (aB h),.int .i64 x] w fun r w'=>r=.returned (.agg (aB { h with pos:=24 }))∧Below w w w':=by
 go_enter func277,ntmps277
 go_wp2_with fail;refine aK w zB fun y=>?_;refine (dL _ _ _).mono ?_;rintro _ G ⟨rfl,m⟩;obtain ⟨z,q,u⟩:=BM y m (b:=w);(try simp at q);(try simp [go_sem] at u);replace A:=uV u;clear u m y
 go_wp2
 exact bodyPost_ret (jy results277 rfl (aJ { h with pos:=24 } tZ)) rfl ⟨rfl,by exact zB⟩
theorem Js (h:Ha) (x:Int) (w:World):Calls prog 277 #[.agg (aB h),.int .i64 x] w fun r w'=>r=.returned (.agg (aB (lC h x)))∧Below w w w':=by
 by_cases y:x=0
 ·rw [show lC h x=h by simp [lC,y]]
  exact OM h x w y
 by_cases z:x=2
 ·rw [show lC h x={ h with pos:=25 } by simp [lC,z]]
  exact OO h x w z
 have m:(x == 0)=false:=by simpa using y
 have q:(x == 2)=false:=by simpa using z
 cases u:(h.code == 1) with
 | true =>
  rw [show lC h x=aV 1 0 by simp only [lC,m,q,u];rfl]
  exact OP h x w m q u
 | false =>
  rw [show lC h x={ h with pos:=24 } by simp only [lC,m,q,u];rfl]
  exact OQ h x w m q u
theorem F7 (c:Ch) (h:Ha) (q r:Value) (lo:Nat) (w:World) (h1:aD w lo q c.cells) (m:aG w lo r c.words) (G:(h.code != 2)=true) :
  Calls prog 278 #[.agg (aF c q r),.agg (aB h)] w fun e z=>∃ T s,e=.panicked [{ v:=.iface T s,recovered:=false }]∧Below w w z:=by
 obtain ⟨A,J,D,K,rfl,rfl,u,y,E,F⟩:=rR h1 m
 clear h1 m
 have H:=u.out
 have I:=y.out
 go_enter func278,ntmps278
 go_wp2
 exact ⟨rfl,_,_,rfl,by exact zB⟩
theorem Dq (c:Ch) (h:Ha) (J K:Value) (lo:Nat) (w:World) (h1:aD w lo J c.cells) (y:aG w lo K c.words) (L:0≤h.cell) (M:h.cell<c.cells.length) (hk:(h.code != 2)=false) :
  Calls prog 278 #[.agg (aF c J K),.agg (aB h)] w fun r w'=>r=.returned (.agg (aB (aV 2 (cellAt c h.cell).e)))∧Below w w w':=by
 obtain ⟨i,z⟩:∃ i:Nat,h.cell=(i:Int):=⟨h.cell.toNat,by omega⟩
 have O:i<c.cells.length:=by omega
 have R:(0:Int)≤(i:Int):=by omega
 have T:(i:Int)<(c.cells.length:Int):=by omega
 have V:=h1.ne y
 obtain ⟨a2,q2,rfl,_⟩:=y.seg
 obtain ⟨g,q1,rfl,H,U,m,N⟩:=h1.open1 O
 have O1:=aA h1
 have O2:=aA y
 have X:g<w.heap.size+1:=by omega
 have Y:g<w.heap.size+1+1:=by omega
 have Z:g<w.heap.size+1+1+1:=by omega
 have a5:g≠w.heap.size:=by omega
 have a6:g≠w.heap.size+1:=by omega
 have a7:g≠w.heap.size+1+1:=by omega
 have a8:g≠w.heap.size+1+1+1:=by omega
 have a0:w.heap.size≠g:=by omega
 have a1:w.heap.size+1≠g:=by omega
 have a3:w.heap.size+1+1≠g:=by omega
 have a4:w.heap.size+1+1+1≠g:=by omega
 have I:Hid (cellAt c h.cell=c.cells.getD i ⟨0,0,0⟩):=by simp [cellAt,Hid,z]
 have c0:=m 0 tO
 have E:=m 1 tO
 have c2:=m 2 tO
 simp only [C3.val,Nat.add_zero] at c0 E c2
 have F:=I.out
 rw [F]
 generalize c.cells.getD i ⟨0,0,0⟩=x at *
 obtain ⟨s,e,t⟩:=x
 simp only at c0 E c2 ⊢
 clear I F m h1 y
 go_enter func278,ntmps278
 go_wp2_with fail;refine aK w zB fun D=>?_;refine (iF _ _ _).mono ?_;rintro _ w1 ⟨rfl,q⟩;obtain ⟨G,u,A⟩:=uW D q (b:=w);(try simp at u);(try simp [go_sem] at A);replace bX:=ql A;clear A q D
 go_wp2
 exact bodyPost_ret (jy results278 rfl (aJ (aV 2 e) tZ)) rfl ⟨rfl,by exact zB⟩
end
section
open Go.RowKit
theorem sD (X m:Int) (r:0≤m) (h1:m<2147483648):0≤bits .and .u64 X m∧bits .and .u64 X m≤m:=by
 obtain ⟨k,rfl⟩:=Int.eq_ofNat_of_zero_le r
 have u:(BitVec.ofInt 64 (k:Int)).toNat=k:=by
  rw [BitVec.toNat_ofInt];simp;omega
 have q:(BitVec.ofInt 64 X &&& BitVec.ofInt 64 (k:Int)).toNat≤k:=by
  rw [BitVec.toNat_and,u];exact Nat.and_le_right
 have e:bits .and .u64 X (k:Int)=((BitVec.ofInt 64 X &&& BitVec.ofInt 64 (k:Int)).toNat:Int):=by
  show IntKind.u64.wrap ((BitVec.ofInt 64 X &&& BitVec.ofInt 64 (k:Int)).toNat:Int)=_
  generalize (BitVec.ofInt 64 X &&& BitVec.ofInt 64 (k:Int)).toNat=z at q
  simp [IntKind.wrap,IntKind.signed,IntKind.bits]
  omega
 rw [e];omega
def DI (w:World) (B g:Nat):Prop:=∃ (a:Option Addr) (n cap i:Nat) (h:Int) (bs:Nat→Int),
 w.heap[g]?=some (.cells #[.slice a n cap,.int .i64 i,.int .u64 h] 75 (0,0))∧i≤n∧n≤4096∧B≤g∧(∀ j,0≤bs j∧bs j≤255)∧Seg w B a n 1 (fun j _=>.int .u8 (bs j))
theorem DI.lt {w:World} {B g:Nat} (h:DI w B g):g<w.heap.size:=by
 obtain ⟨a,n,cap,i,h,bs,m,_⟩:=h
 exact (Array.getElem?_eq_some_iff.1 m).1
theorem DI.le {w:World} {B g:Nat} (h:DI w B g):B≤g:=by
 obtain ⟨a,n,cap,i,h,bs,q,_,_,m,_⟩:=h
 exact m
theorem DI.keep {w w':World} {B g:Nat} (h:DI w B g) (e:w'.heap[g]?=w.heap[g]?) (k:Below B w w'):DI w' B g:=by
 obtain ⟨a,n,cap,i,h,bs,y,h1,m,q,r,u⟩:=h
 exact ⟨a,n,cap,i,h,bs,e.trans y,h1,m,q,r,u.below k⟩
theorem DI.alloc {w:World} {B g:Nat} {o:Obj} (h:DI w B g):DI (w.alloc o) B g:=h.keep (Below.heap_alloc w o g h.lt) ((Below.refl _ _).alloc (by have:=h.lt;have:=h.le;omega) o)
theorem DI.drew {w:World} {B g:Nat} (h:DI w B g):DI w.drew B g:=h
theorem DI.setCell {w:World} {B g:Nat} {p:Addr} {u:Value} (h:DI w B g) (hp:B≤p.block) (m:g≠p.block):DI (w.setCell p u) B g:=h.keep (Below.heap_setCell w p u g m) ((Below.refl _ _).setCell hp u)
theorem DI.below {w w':World} {B g:Nat} (h:DI w B g) (k:Below w w w'):DI w' B g:=h.keep (k.block g h.lt) (k.mono (by have:=h.lt;have:=h.le;omega))
theorem Mc (n cap:Nat) (a:Option Addr) (bs:Nat→Int) (z:Int) (w:World) (h:Code w w a n bs) :
  Calls prog 10 #[.slice a n cap,.int .u64 z] w fun r w'=>∃ g,r=.returned (.pointer (some ⟨g,0,none⟩))∧DI w' w g∧Below w w w':=by
 have L:=h.len
 have HB:=aA h.bd
 have D:=aA h.seg
 clear h
 go_enter func10,ntmps10
 go_wp2
 go_loopw [6] (fun i wr=>∃ (k:Nat) (H:Int),k≤n∧i=.int .i64 k∧wr.heap[w.heap.size]?=some (.cells #[.slice a n cap,.int .i64 0,.int .u64 H] 75 (0,0))∧Below w w wr) (fun i _=>n - (intOf i).toNat)
 case atStart=>exact ⟨0,_,Nat.zero_le _,rfl,heap_alloc_new w _,(Below.refl _ _).alloc (Nat.le_refl _) _⟩
 case round =>
  obtain ⟨k,H,T,rfl,q,m⟩:=hrel
  have hs:=m.size
  have G:w<wr.heap.size:=(Array.getElem?_eq_some_iff.1 q).1
  by_cases A:k<n
  ·obtain R|⟨b,o,rfl,J,F⟩:=D.out
   ·omega
   have E:=(m.cell (p:=⟨b,o+k*1+0,none⟩) J).trans (F k 0 A tO)
   have u:=HB.out k
   simp only [Nat.add_zero,Nat.mul_one] at E
   clear F
   generalize bs k=y at E u
   obtain ⟨M,N⟩:=u
   have c0:=cell_of_row wr w 0 _ _ _ q
   have c2:=cell_of_row wr w 2 _ _ _ q
   have O:=dH q
   simp at c0 c2
   have K:(k:Int)<(n:Int):=by omega
   have I:=aA q
   clear q
   go_wp2
   go_still_tail 15,(by kernel_rfl)
   go_wp2
   go_roundw
   case rel=>exact ⟨k+1,_,by omega,by go_num,ED (n:=1) (by simpa using iK I.out 2 _),by exact zB⟩
   case measure=>simp [intOf];omega
  ·have:k=n:=by omega
   subst this
   go_wp2
   go_ret
   exact ⟨_,rfl,⟨a,k,cap,0,H,bs,q,by omega,L,Nat.le_refl _,HB.out,D.out.below m⟩,m⟩
theorem F9 (B g n cap i:Nat) (a:Option Addr) (h m:Int) (bs:Nat→Int) (w:World)
  (q:w.heap[g]?=some (.cells #[.slice a n cap,.int .i64 i,.int .u64 h] 75 (0,0))) (X:i≤n) (R:n≤4096) (E:B≤g) (z:∀ j,0≤bs j∧bs j≤255) (G:Hid (Seg w B a n 1 (fun j _=>.int .u8 (bs j)))) (F:0<m) (a1:m≤1000000) :
  Calls prog 11 #[.pointer (some ⟨g,0,none⟩),.int .i64 m] w fun r w'=>tF (m - 1) r∧DI w' B g∧Gr g w w':=by
 have c0:=cell_of_row w g 0 _ _ _ q
 have T:=cell_of_row w g 1 _ _ _ q
 have c2:=cell_of_row w g 2 _ _ _ q
 have f0:=dH q
 have a0:g<w.heap.size:=(Array.getElem?_eq_some_iff.1 q).1
 simp at c0 T c2
 have L:=aA q
 have HB:=aA z
 clear q z
 by_cases I:i<n
 ·obtain h0|⟨b,o,rfl,hb,N⟩:=G.out
  ·omega
  have M:=N i 0 I tO
  have u:=HB.out i
  simp only [Nat.add_zero,Nat.mul_one] at M
  clear N
  generalize bs i=y at M u
  obtain ⟨a2,a3⟩:=u
  have U:b≠g:=by omega
  have V:¬ g=b:=by omega
  have Y:(0:Int)≤(i:Int):=by omega
  have Z:(i:Int)<(n:Int):=by omega
  go_enter func11,ntmps11
  go_wp2
  generalize IntKind.u64.wrap (IntKind.u64.wrap (h*6364136223846793005)+1442695040888963407)=H
  have D:=sD (H / 8589934592) 16777215 tO tO
  generalize bits BinOp.and IntKind.u64 (H / 8589934592) 16777215=x at D
  obtain ⟨J,K⟩:=D
  have A:wrap64 x=x:=IntWalk.wrap64_in _ tO
  rw [A]
  clear A
  go_quiet (fail)
  go_wp2
  go_quiet (fail)
  go_wp2
  go_ret
  exact ⟨⟨_,rfl,(nu _ F).1,(nu _ F).2⟩,⟨_,n,cap,i+1,H,bs,by simpa using iK (ED (iK L.out 2 _)) 1 _,by omega,R,E,HB.out,G.out.below (by repeat (first|exact Below.refl _ _|refine Below.setCell ?_ E _|refine Qj ?_ _))⟩,by repeat (first|exact gR _ _|refine gS ?_ (.inl rfl)|refine Qi ?_ _)⟩
 ·have O:¬ (i:Int)<(n:Int):=by omega
  go_enter func11,ntmps11
  go_wp2
  generalize IntKind.u64.wrap (IntKind.u64.wrap (h*6364136223846793005)+1442695040888963407)=H
  have D:=sD (H / 8589934592) 16777215 tO tO
  generalize bits BinOp.and IntKind.u64 (H / 8589934592) 16777215=x at D
  obtain ⟨J,K⟩:=D
  have A:wrap64 x=x:=IntWalk.wrap64_in _ tO
  rw [A]
  clear A
  go_quiet (fail)
  go_wp2
  go_ret
  exact ⟨⟨_,rfl,(nu _ F).1,(nu _ F).2⟩,⟨a,n,cap,i,H,bs,by simpa using iK L.out 2 _,X,R,E,HB.out,G.out.below (Qj ((Below.refl _ _).setCell E _) _)⟩,Qi (gS (gR _ _) (.inl rfl)) _⟩
theorem Jt (B g:Nat) (m:Int) (w:World) (h:DI w B g) (E:0<m) (q:m≤1000000):Calls prog 11 #[.pointer (some ⟨g,0,none⟩),.int .i64 m] w fun r w'=>tF (m - 1) r∧DI w' B g∧Gr g w w':=by
 obtain ⟨a,n,cap,i,h,bs,D,h1,u,y,z,A⟩:=h
 exact F9 B g n cap i a h m bs w D h1 u y z (aA A) E q
end
end Go.Proofs.YtffhjmepfojhnaaGreat
