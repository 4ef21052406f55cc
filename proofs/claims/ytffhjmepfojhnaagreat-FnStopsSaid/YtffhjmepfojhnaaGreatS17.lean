/-
  Worlds whose lists are the call's own; no condition.
-/
import Derived.Test.YtffhjmepfojhnaaGreatS11
import Derived.Test.YtffhjmepfojhnaaGreatS02
import Derived.Test.YtffhjmepfojhnaaGreatS06
set_option maxRecDepth 100000
set_option maxHeartbeats 4000000
set_option linter.unusedSimpArgs false
set_option linter.unusedVariables false
namespace Go.Proofs.YtffhjmepfojhnaaGreat
open _root_.Go.Proofs.Tryz
section
open Go.RowKit
def dO (w':World) (lo:Nat) (v1 v2 v3 v4:Value) (x:Wo):Prop:=aD w' lo v1 x.ch.cells∧aG w' lo v2 x.ch.words∧cO w' lo v3 x.hands∧dV w' lo v4 x.deals
def fE (w w':World) (x:Wo) (t:Value) (r:Ending):Prop:=(∃ v1 v2 v3 v4,r=.returned (.tuple #[.agg #[x.ch.cap,x.ch.sent,x.ch.got,x.ch.fin,v1,v2,v3,v4,x.now],t])∧dO w' w v1 v2 v3 v4 x)∧Below w w w'
theorem jg (w':World) (lo:Nat):dO w' lo (.slice none 0 0) (.slice none 0 0) (.slice none 0 0) (.slice none 0 0) Wo.zero:=⟨World.ownsRow_nil _ _ _ _,World.ownsRow_nil _ _ _ _,World.ownsRow_nil _ _ _ _,World.ownsRow_nil _ _ _ _⟩
def pY (x v:Value):Sem Unit:=Instr.storeAt 49 x v
theorem gK (x v:Value):Instr.storeAt 49 x v=pY x v:=by unfold pY;simp
theorem fF {w:World} {b:Nat} (x:Ha) (h:okO 14 (hp w b)=true):(pY (.pointer (some ⟨b,0,none⟩)) (.agg (aB x))).run prog w=.ok () (dF w b (aB x)):=aX x h
def ig (w:World) (b o:Nat) (x:Ha):World :=
 (((((((((((((w.setCell ⟨b,o+0,none⟩ (.int .i64 x.pos)).setCell ⟨b,o+1,none⟩ (.int .i64 x.code)).setCell ⟨b,o+2,none⟩ (.int .i64 x.elem)).setCell ⟨b,o+3,none⟩ (.int .i64 x.cell)).setCell ⟨b,o+4,none⟩ (.int .i64 x.seen)).setCell ⟨b,o+5,none⟩ (.int .i64 x.wait)).setCell ⟨b,o+6,none⟩ (.int .i64 x.fin)).setCell ⟨b,o+7,none⟩ (.int .i64 x.come)).setCell ⟨b,o+8,none⟩ (.int .i64 x.grow)).setCell ⟨b,o+9,none⟩ (.int .i64 x.mine)).setCell ⟨b,o+10,none⟩ (.int .i64 x.nxt)).setCell ⟨b,o+11,none⟩ (.int .i64 x.beg)).setCell ⟨b,o+12,none⟩ (.int .i64 x.reply)).setCell ⟨b,o+13,none⟩ (.int .i64 x.out)
theorem qp {w:World} {b o:Nat} (x:Ha) (h:∀ j,j<14→∃ v,w.cell? ⟨b,o+j,none⟩=some v) (M:∀ j,w.frozen? ⟨b,j,none⟩=false):(pY (.pointer (some ⟨b,o,none⟩)) (.agg (aB x))).run prog w=.ok () (ig w b o x):=by
 obtain ⟨N,m⟩:=h 0 tO
 obtain ⟨O,h1⟩:=h 1 tO
 obtain ⟨R,F⟩:=h 2 tO
 obtain ⟨T,G⟩:=h 3 tO
 obtain ⟨U,H⟩:=h 4 tO
 obtain ⟨V,I⟩:=h 5 tO
 obtain ⟨X,h6⟩:=h 6 tO
 obtain ⟨Y,J⟩:=h 7 tO
 obtain ⟨u8,K⟩:=h 8 tO
 obtain ⟨Z,L⟩:=h 9 tO
 obtain ⟨z,q⟩:=h 10 tO
 obtain ⟨A,r⟩:=h 11 tO
 obtain ⟨D,u⟩:=h 12 tO
 obtain ⟨E,y⟩:=h 13 tO
 simp only [Nat.add_zero] at m
 simp [pY,aB,go_sem,ig, *]
theorem fM (w:World) (b o:Nat) (x:Ha):w.grownBy (ig w b o x) (some b):=by
 unfold ig
 repeat (first|with_reducible exact gR _ _|with_reducible refine gS ?_ (.inl rfl))
theorem jL (w:World) (b o:Nat) (x:Ha):(ig w b o x).heap.size=w.heap.size:=by simp [ig]
theorem Jo:∀ (hs:List Ha) (i:Nat) (x:Ha),i<hs.length →
  jF (hs.set i x)=(((((((((((((((jF hs).set (i*14+0) (.int .i64 x.pos)).set (i*14+1) (.int .i64 x.code)).set (i*14+2) (.int .i64 x.elem)).set (i*14+3) (.int .i64 x.cell)).set (i*14+4) (.int .i64 x.seen)).set (i*14+5) (.int .i64 x.wait)).set (i*14+6) (.int .i64 x.fin)).set (i*14+7) (.int .i64 x.come)).set (i*14+8) (.int .i64 x.grow)).set (i*14+9) (.int .i64 x.mine)).set (i*14+10) (.int .i64 x.nxt)).set (i*14+11) (.int .i64 x.beg)).set (i*14+12) (.int .i64 x.reply)).set (i*14+13) (.int .i64 x.out)):=by
 intro hs i x u
 apply List.ext_getElem?
 intro n
 by_cases z:n<hs.length*14
 ·have e:n=n / 14*14+n % 14:=by omega
  have h1:=kg (hs.set i x) (n / 14) (n % 14) (by simp;omega) tO
  have q:=kg hs (n / 14) (n % 14) tO tO
  rw [← e] at h1 q
  rw [h1]
  by_cases r:n / 14=i
  ·subst r
   have m:n % 14=0∨n % 14=1∨n % 14=2∨n % 14=3∨n % 14=4∨n % 14=5∨n % 14=6∨n % 14=7∨n % 14=8∨n % 14=9∨n % 14=10∨n % 14=11∨n % 14=12∨n % 14=13:=by omega
   have y:=jA hs
   rcases m with m|m|m|m|m|m|m|m|m|m|m|m|m|m
   all_goals (rw [m] at e ⊢;simp only [List.getElem?_set,List.length_set];simp (disch:=omega) only [if_neg,if_pos,dY,List.getD_eq_getElem?_getD,List.getElem?_set,aB,Array.getD];simp [u,y,aB,dY,Array.getD])
  ·simp only [List.getElem?_set,List.length_set]
   simp (disch:=omega) only [if_neg]
   rw [q]
   simp [dY,List.getD,List.getElem?_set,Ne.symm r]
 ·rw [List.getElem?_eq_none (by rw [jA];simp;omega),List.getElem?_eq_none (by simp [jA];omega)]
theorem cO.open1 {w:World} {lo:Nat} {v:Value} {hs:List Ha} (h:cO w lo v hs) {i:Nat} (u:i<hs.length) :
  ∃ g cap,v=.slice (some ⟨g,0,none⟩) hs.length cap∧lo≤g∧g<w.heap.size∧(∀ j,j<14→w.cell? ⟨g,i*14+j,none⟩=some ((aB (hs.getD i Ha.zero)).getD j (.int .i64 0)))∧∀ o,w.frozen? ⟨g,o,none⟩=false:=by
 have r:=h
 rcases h.2 with ⟨_,A⟩|⟨g,cap,q,rfl,z,m,_⟩
 ·omega
 ·refine ⟨g,cap,rfl,z,(Array.getElem?_eq_some_iff.1 m).1,fun j y=>?_,fun o=>by simp [World.frozen?,m]⟩
  have:=r.cells (g:=g) rfl (i*14+j) _ (kg hs i j u y)
  rw [show (aB (hs.getD i Ha.zero)).getD j (.int .i64 0)=dY hs i j from rfl,← this]
  congr 1
  by_cases e:i*14+j=0 <;> simp [Addr.add,e] <;> omega
theorem cO.set {w:World} {lo g cap:Nat} {hs:List Ha} (h:cO w lo (.slice (some ⟨g,0,none⟩) hs.length cap) hs) {i:Nat} (m:i<hs.length) (x:Ha) :
  cO (ig w g (i*14) x) lo (.slice (some ⟨g,0,none⟩) hs.length cap) (hs.set i x):=by
 have q:=jA hs
 unfold cO ig
 rw [Jo hs i x m,List.length_set]
 iterate 14 (refine jH ?_ _ (by (try simp only [List.length_set]);omega) _)
 exact h
end
section
open Go.RowKit
attribute [local simp] aP
attribute [local go_sem ↓] aQ aY aZ gK aN
attribute [local go_sem] fF
theorem Jp (x:Wo) (who A z:Int) (a b d e:Option Addr) (p q r s:Nat) (w:World) (h1:fA w w a x.ch.cells) (K:a=none→p=0) (F:fD w w b x.ch.words) (L:b=none→q=0) (G:pF w w d x.hands) (M:d=none→x.hands.length=0∧r=0) (H:pG w w e x.deals) (N:e=none→x.deals.length=0∧s=0) (m1:x.ch.cells.length≤1099511627776) (m2:x.ch.words.length≤1099511627776) (V:x.hands.length≤1099511627776) (X:x.deals.length≤1099511627776) (J:bC x=false) :
  Calls prog 132 #[kZ x a b d e p q r s,.int .i64 who,.agg #[.int .i64 A,.int .i64 z]] w fun r w'=>fE w w' (asked x who A z).1 (.int .i64 (asked x who A z).2) r:=by
 have E:asked x who A z=(Wo.zero,3):=by simp [asked,J]
 rw [E]
 have O:=aA h1
 have R:=aA F
 have T:=aA G
 have U:=aA H
 have Y:=aA K
 have Z:=aA L
 have Z3:=aA M
 have Z4:=aA N
 clear h1 F G H K L M N
 clear E
 go_enter func132,ntmps132
 go_wp2_with fail;refine aK w zB fun u=>?_;refine (fG x a b d e p q r s _ (aT O u) (aT R u) (aT T u) (aT U u) V X).mono ?_;rintro _ w1 ⟨rfl,m⟩;have I:=bT u m;have y:=m.size;(try simp at y);have D:=And.intro (oZ m (b:=w+1+1)) <| And.intro (oZ m (b:=w+1)) <| oZ m (b:=w);(try simp [go_sem] at D);replace bX:=D;clear D m u
 rw [J]
 go_wp2
 exact bodyPost_ret (v:=.tuple #[.agg #[Wo.zero.ch.cap,Wo.zero.ch.sent,Wo.zero.ch.got,Wo.zero.ch.fin,.slice none 0 0,.slice none 0 0,.slice none 0 0,.slice none 0 0,Wo.zero.now],.int .i64 3]) (by simp [results,results132,go_sem,Wo.zero,Ch.zero, *]) rfl ⟨⟨_,_,_,_,rfl,jg _ _⟩,by exact zB⟩
theorem Jq (x:Wo) (who F E:Int) (a b d e:Option Addr) (p q r s:Nat) (w:World) (h1:fA w w a x.ch.cells) (U:a=none→p=0) (K:fD w w b x.ch.words) (V:b=none→q=0) (L:pF w w d x.hands) (X:d=none→x.hands.length=0∧r=0) (M:pG w w e x.deals) (Y:e=none→x.deals.length=0∧s=0) (m1:x.ch.cells.length≤1099511627776) (m2:x.ch.words.length≤1099511627776) (T:x.hands.length≤1099511627776) (m4:x.deals.length≤1099511627776) (R:bC x=true) (G:cK x who=false) :
  Calls prog 132 #[kZ x a b d e p q r s,.int .i64 who,.agg #[.int .i64 F,.int .i64 E]] w fun r w'=>fE w w' (asked x who F E).1 (.int .i64 (asked x who F E).2) r:=by
 have J:asked x who F E=(Wo.zero,3):=by simp [asked,R,G]
 rw [J]
 have Z:=aA h1
 have H2:=aA K
 have H3:=aA L
 have H4:=aA M
 have Z1:=aA U
 have Z2:=aA V
 have Z3:=aA X
 have Z4:=aA Y
 clear h1 K L M U V X Y
 clear J
 have H:eH x.hands who=false:=G
 clear G
 go_enter func132,ntmps132
 go_wp2_with fail;refine aK w zB fun y=>?_;refine (fG x a b d e p q r s _ (aT Z y) (aT H2 y) (aT H3 y) (aT H4 y) T m4).mono ?_;rintro _ w1 ⟨rfl,m⟩;have N:=bT y m;have A:=m.size;(try simp at A);have z:=And.intro (oZ m (b:=w+1+1)) <| And.intro (oZ m (b:=w+1)) <| oZ m (b:=w);(try simp [go_sem] at z);replace I:=z;clear z m y
 rw [R]
 go_wp2_with fail;refine aK w zB fun y=>?_;refine (jG x.ch x.hands x.now who _ _ _ _ _ _ _ _ _ _ _ T _).mono ?_;rintro _ w2 ⟨rfl,u⟩;have O:=bT y u;have D:=u.size;(try simp at D);have z:=And.intro (oZ u (b:=w+1+1)) <| And.intro (oZ u (b:=w+1)) <| oZ u (b:=w);(first|simp [go_sem,I] at z|simp [go_sem] at z|skip);replace I:=z;clear z u y
 rw [H]
 go_wp2
 exact bodyPost_ret (v:=.tuple #[.agg #[Wo.zero.ch.cap,Wo.zero.ch.sent,Wo.zero.ch.got,Wo.zero.ch.fin,.slice none 0 0,.slice none 0 0,.slice none 0 0,.slice none 0 0,Wo.zero.now],.int .i64 3]) (by simp [results,results132,go_sem,Wo.zero,Ch.zero, *]) rfl ⟨⟨_,_,_,_,rfl,jg _ _⟩,by exact zB⟩
theorem uD (x:Wo) (who R O:Int) (a b d e:Option Addr) (p q r s:Nat) (w:World) (h1:fA w w a x.ch.cells) (z1:a=none→p=0) (h2:fD w w b x.ch.words) (z2:b=none→q=0) (h3:pF w w d x.hands) (z3:d=none→x.hands.length=0∧r=0) (h4:pG w w e x.deals) (z4:e=none→x.deals.length=0∧s=0) (m1:x.ch.cells.length≤1099511627776) (m2:x.ch.words.length≤1099511627776) (m3:x.hands.length≤1099511627776) (m4:x.deals.length≤1099511627776) (hk:bC x=true) (Z:cK x who=true) :
  (∀ (Y:((called (aL x who) R O).2 != 0)=true),Calls prog 132 #[kZ x a b d e p q r s,.int .i64 who,.agg #[.int .i64 R,.int .i64 O]] w fun r w'=>fE w w' (asked x who R O).1 (.int .i64 (asked x who R O).2) r) ∧
  (∀ (Y:((called (aL x who) R O).2 != 0)=false) (hn:(x.now == 20000)=true),Calls prog 132 #[kZ x a b d e p q r s,.int .i64 who,.agg #[.int .i64 R,.int .i64 O]] w fun r w'=>fE w w' (asked x who R O).1 (.int .i64 (asked x who R O).2) r):=by
 constructor
 case' left =>
  intro Y
  have mA:Hid (0=0):=rfl
 case' right =>
  intro Y hn
  have mB:Hid (0=0):=rfl
 all_goals
  have H1:=aA h1
  have H2:=aA h2
  have H3:=aA h3
  have H4:=aA h4
  have Z1:=aA z1
  have Z2:=aA z2
  have Z3:=aA z3
  have Z4:=aA z4
  clear h1 h2 h3 h4 z1 z2 z3 z4
  obtain ⟨i,rfl⟩:∃ i:Nat,who=(i:Int):=⟨who.toNat,by simp [cK,eH,dA] at Z;omega⟩
  have hi:i<x.hands.length:=by simp [cK,eH,dA] at Z;omega
  obtain ⟨L,o3,rfl,a1,a6⟩:∃ b o,d=some ⟨b,o,none⟩∧b<w.heap.size∧Hid (∀ i j,i<x.hands.length→j<14→w.cell? ⟨b,o+i*14+j,none⟩=some (dY x.hands i j)):=by
   rcases H3.out with h0|h0
   ·omega
   ·exact h0
  have ag:∀ W:World,hp W L=hp w L→(jU (.pointer (some ⟨L,o3+i*14,none⟩))).run prog W=.ok (.agg (aB (aL x i))) W:=fun W e=>jh _ fun j hj=>by rw [show (aB (aL x i)).getD j (.int .i64 0)=dY x.hands i j by simp [dY,aL],← a6.out i j hi hj];exact World.cell?_of_block e
  have ah:(0:Int)≤(i:Int):=by omega
  have ai:(i:Int)<(x.hands.length:Int):=by omega
  first
  | (replace mA:=mA;have e0:asked x i R O=(x,(called (aL x i) R O).2):=by simp at Y;simp [asked,hk,Z,Y])
  | (replace mB:=mB;have e0:asked x i R O=(x,1):=by simp at Y hn;simp [asked,hk,Z,Y,hn])
  rw [e0]
  have a8:eH x.hands i=true:=Z
  clear e0 Z
  go_enter func132,ntmps132
  go_wp2_with fail;refine aK w zB fun M=>?_;refine (fG x a b _ e p q r s _ (aT H1 M) (aT H2 M) (aT H3 M) (aT H4 M) m3 m4).mono ?_;rintro _ w1 ⟨rfl,D⟩;have ae:Below w w w1:=bT M D;have a2:=D.size;(try simp at a2);have T:=And.intro (fun o=>D.cell (p:=⟨w+1+1,o,none⟩) tS) <| And.intro (fun o=>D.frozen (p:=⟨w+1+1,o,none⟩) tS) <| And.intro (fun o=>D.cell (p:=⟨w+1,o,none⟩) tS) <| And.intro (fun o=>D.frozen (p:=⟨w+1,o,none⟩) tS) <| And.intro (fun o=>D.cell (p:=⟨w,o,none⟩) tS) <| fun o=>D.frozen (p:=⟨w,o,none⟩) tS;(try simp [go_sem] at T);(try clear u y);(try clear A H);(try clear J N);obtain ⟨u,y,A,H,J,N⟩:=T;(try clear m);have m:w+1+1<w1.heap.size:=tO;(try clear z);have z:w+1<w1.heap.size:=tO;(try clear I);have I:w<w1.heap.size:=tO;clear D M
  rw [hk]
  go_wp2_with fail;refine aK w zB fun M=>?_;refine (jG x.ch x.hands x.now i _ _ _ _ _ _ _ _ _ _ _ m3 _).mono ?_;rintro _ w2 ⟨rfl,E⟩;have af:Below w w w2:=bT M E;have a3:=E.size;(try simp at a3);have T:=And.intro (fun o=>E.cell (p:=⟨w+1+1,o,none⟩) tS) <| And.intro (fun o=>E.frozen (p:=⟨w+1+1,o,none⟩) tS) <| And.intro (fun o=>E.cell (p:=⟨w+1,o,none⟩) tS) <| And.intro (fun o=>E.frozen (p:=⟨w+1,o,none⟩) tS) <| And.intro (fun o=>E.cell (p:=⟨w,o,none⟩) tS) <| fun o=>E.frozen (p:=⟨w,o,none⟩) tS;(first|simp [go_sem,u,y,A,H,J,N,I,z,m] at T|simp [go_sem,u,A,J,I,z,m] at T|simp [go_sem] at T|skip);(try clear u y);(try clear A H);(try clear J N);obtain ⟨u,y,A,H,J,N⟩:=T;(try clear m);have m:w+1+1<w2.heap.size:=tO;(try clear z);have z:w+1<w2.heap.size:=tO;(try clear I);have I:w<w2.heap.size:=tO;clear E M
  rw [a8]
  go_wp2_with fail;refine aK w zB fun M=>?_;refine (iE x a b _ e p q r s _ (aT H1 M) Z1.out (aT H2 M) Z2.out (aT H3 M) Z3.out (aT H4 M) Z4.out m1 m2 m3 m4).mono ?_;rintro _ K ⟨⟨v1,v2,v3,v4,rfl,o1,o2,V,o4⟩,F⟩;have a0:Below w w K:=bT M F;have a4:=F.size;(try simp at a4);have T:=And.intro (fun o=>F.cell (p:=⟨w+1+1,o,none⟩) tS) <| And.intro (fun o=>F.frozen (p:=⟨w+1+1,o,none⟩) tS) <| And.intro (fun o=>F.cell (p:=⟨w+1,o,none⟩) tS) <| And.intro (fun o=>F.frozen (p:=⟨w+1,o,none⟩) tS) <| And.intro (fun o=>F.cell (p:=⟨w,o,none⟩) tS) <| fun o=>F.frozen (p:=⟨w,o,none⟩) tS;(first|simp [go_sem,u,y,A,H,J,N,I,z,m] at T|simp [go_sem,u,A,J,I,z,m] at T|simp [go_sem] at T|skip);(try clear u y);(try clear A H);(try clear J N);obtain ⟨u,y,A,H,J,N⟩:=T;(try clear m);have m:w+1+1<K.heap.size:=tO;(try clear z);have z:w+1<K.heap.size:=tO;(try clear I);have I:w<K.heap.size:=tO;clear F M
  try simp at o1 o2 V o4
  have O1:=aA o1
  have O2:=aA o2
  have O3:=aA V
  have O4:=aA o4
  obtain ⟨va,vc,rfl,_⟩:=aD.seg o1
  obtain ⟨vb,vd,rfl,_⟩:=aG.seg o2
  obtain ⟨vf,vg,rfl,_⟩:=cO.seg V
  obtain ⟨vh,vi,rfl,_⟩:=dV.seg o4
  clear o1 o2 V o4
  have z3:hp K L=hp w L:=a0.block L a1
  have aj:L<K.heap.size:=by omega
  have ql:L≠K.heap.size:=by omega
  have k0:w<K.heap.size:=by omega
  have k1:w+1<K.heap.size:=by omega
  have k2:w+1+1<K.heap.size:=by omega
  have ak:L<K.heap.size+1:=by omega
  have dW:L≠K.heap.size+1:=by omega
  go_wp2_with fail
  go_region_held3 (fun w'=>w'.cell? ⟨w,6,none⟩=some (.slice (some ⟨L,o3,none⟩) x.hands r)∧hp w' L=hp w L∧w'.cell? ⟨w+1,0,none⟩=some (.int .i64 R)∧w'.cell? ⟨w+1,1,none⟩=some (.int .i64 O))
   (first|(simp [*,go_sem]))
   (first|(go_at_call 176;refine (uz (aL x i) R O _).mono ?_;rintro _ X ⟨rfl,G⟩;have a5:Below w w X:=bT zB G;have U:Below K K X:=bT zB G;have a7:=G.size;(try simp at a7);have x4:=fun o=>G.cell (p:=⟨w,o,none⟩) (by ((try simp) <;> (try omega)));have ac:=fun o=>G.cell (p:=⟨w+1,o,none⟩) (by ((try simp) <;> (try omega)));have y4:=fun o=>G.cell (p:=⟨w+1+1,o,none⟩) (by ((try simp) <;> (try omega)));have ad:=fun o=>G.frozen (p:=⟨w+1+1,o,none⟩) (by ((try simp) <;> (try omega)));have v4:=fun o=>G.cell (p:=⟨K,o,none⟩) (by ((try simp) <;> (try omega)));have ab:=fun o=>G.frozen (p:=⟨K,o,none⟩) (by ((try simp) <;> (try omega)));have t4:=fun o=>G.cell (p:=⟨K+1,o,none⟩);have a9:=fun o=>G.frozen (p:=⟨K+1,o,none⟩);have aa:=oW G (b:=K+1);have am:hp X L=hp w L:=a5.block L a1;(simp [go_sem,J,I,k0] at x4);(simp [go_sem,A,z,k1] at ac);(simp [go_sem,u,m,k2] at y4);(simp [go_sem,y,m,k2] at ad);(simp [go_sem] at v4);(simp [go_sem] at ab);(try simp [go_sem] at t4);(try simp [go_sem] at a9);(try simp [go_sem] at aa);have n0:w<X.heap.size:=tO;have n1:w+1<X.heap.size:=tO;have al:w+1+1<X.heap.size:=tO;have n2:K<X.heap.size:=tO;have n3:L<X.heap.size:=tO;have n4:L≠X.heap.size:=tO))
  all_goals go_wp2
  all_goals (have o1:=own_below O1.out U;have o2:=own_below O2.out U;have o3:=own_below O3.out U;have o4:=own_below O4.out U;have q1:=O1.out;have q2:=O2.out;have q3:=O3.out;have q4:=O4.out;have p1:=aH (lo':=w) o1 tO;have p2:=aH (lo':=w) o2 tO;have p3:=aH (lo':=w) o3 tO;have p4:=aH (lo':=w) o4 tO)
  first
  | (replace mA:=mA;all_goals (refine bodyPost_ret (v:=.tuple #[.agg #[x.ch.cap,x.ch.sent,x.ch.got,x.ch.fin,.slice va x.ch.cells vc,.slice vb x.ch.words vd,.slice vf x.hands vg,.slice vh x.deals vi,.int .i64 (x.now)],.int .i64 (called (aL x i) R O).2]) (by simp [results,results132,go_sem, *]) rfl ⟨⟨_,_,_,_,rfl,?_,?_,?_,?_⟩,by exact zB⟩))
  | (replace mB:=mB;all_goals (refine bodyPost_ret (v:=.tuple #[.agg #[x.ch.cap,x.ch.sent,x.ch.got,x.ch.fin,.slice va x.ch.cells vc,.slice vb x.ch.words vd,.slice vf x.hands vg,.slice vh x.deals vi,.int .i64 (x.now)],.int .i64 1]) (by simp [results,results132,go_sem, *]) rfl ⟨⟨_,_,_,_,rfl,?_,?_,?_,?_⟩,by exact zB⟩))
  all_goals first|((repeat first|with_reducible exact p1|with_reducible refine rQ ?_ _|with_reducible refine qh ?_|((with_reducible first|refine aI ?_ ?_ _|refine dZ ?_ ?_);rotate_left;focus first|(refine own_ne q1 ?_;(try dsimp only);omega)|(refine dN q1 ?_;(try dsimp only);omega)));done)|skip
  all_goals first|((repeat first|with_reducible exact p2|with_reducible refine rQ ?_ _|with_reducible refine qh ?_|((with_reducible first|refine aI ?_ ?_ _|refine dZ ?_ ?_);rotate_left;focus first|(refine own_ne q2 ?_;(try dsimp only);omega)|(refine dN q2 ?_;(try dsimp only);omega)));done)|skip
  all_goals first|((repeat first|with_reducible exact p3|with_reducible refine rQ ?_ _|with_reducible refine qh ?_|((with_reducible first|refine aI ?_ ?_ _|refine dZ ?_ ?_);rotate_left;focus first|(refine own_ne q3 ?_;(try dsimp only);omega)|(refine dN q3 ?_;(try dsimp only);omega)));done)|skip
  all_goals first|((repeat first|with_reducible exact p4|with_reducible refine rQ ?_ _|with_reducible refine qh ?_|((with_reducible first|refine aI ?_ ?_ _|refine dZ ?_ ?_);rotate_left;focus first|(refine own_ne q4 ?_;(try dsimp only);omega)|(refine dN q4 ?_;(try dsimp only);omega)));done)|skip
theorem Fv (x:Wo) (who u m:Int) (a b d e:Option Addr) (p q r s:Nat) (w:World) (h1:fA w w a x.ch.cells) (K:a=none→p=0) (y:fD w w b x.ch.words) (L:b=none→q=0) (z:pF w w d x.hands) (M:d=none→x.hands.length=0∧r=0) (A:pG w w e x.deals) (N:e=none→x.deals.length=0∧s=0) (G:x.ch.cells.length≤1099511627776) (H:x.ch.words.length≤1099511627776) (I:x.hands.length≤1099511627776) (J:x.deals.length≤1099511627776) (E:bC x=true) (F:cK x who=true) (D:((called (aL x who) u m).2 != 0)=true) :
  Calls prog 132 #[kZ x a b d e p q r s,.int .i64 who,.agg #[.int .i64 u,.int .i64 m]] w fun r w'=>fE w w' (asked x who u m).1 (.int .i64 (asked x who u m).2) r:=(uD x who u m a b d e p q r s w h1 K y L z M A N G H I J E F).1 D
theorem Fw (x:Wo) (who u m:Int) (a b d e:Option Addr) (p q r s:Nat) (w:World) (h1:fA w w a x.ch.cells) (L:a=none→p=0) (y:fD w w b x.ch.words) (M:b=none→q=0) (z:pF w w d x.hands) (N:d=none→x.hands.length=0∧r=0) (A:pG w w e x.deals) (O:e=none→x.deals.length=0∧s=0) (H:x.ch.cells.length≤1099511627776) (I:x.ch.words.length≤1099511627776) (J:x.hands.length≤1099511627776) (K:x.deals.length≤1099511627776) (E:bC x=true) (G:cK x who=true) (D:((called (aL x who) u m).2 != 0)=false) (F:(x.now == 20000)=true) :
  Calls prog 132 #[kZ x a b d e p q r s,.int .i64 who,.agg #[.int .i64 u,.int .i64 m]] w fun r w'=>fE w w' (asked x who u m).1 (.int .i64 (asked x who u m).2) r:=(uD x who u m a b d e p q r s w h1 L y M z N A O H I J K E G).2 D F
end
end Go.Proofs.YtffhjmepfojhnaaGreat
