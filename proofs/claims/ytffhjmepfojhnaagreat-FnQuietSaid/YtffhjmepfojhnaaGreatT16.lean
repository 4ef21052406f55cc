/-
  Worlds whose lists are the call's own; no condition.
-/
import Derived.Test.YtffhjmepfojhnaaGreatT11
import Derived.Test.YtffhjmepfojhnaaGreatT02
import Derived.Test.YtffhjmepfojhnaaGreatT06
import Derived.Test.YtffhjmepfojhnaaGreatT13
set_option maxRecDepth 100000
set_option maxHeartbeats 4000000
set_option linter.unusedSimpArgs false
set_option linter.unusedVariables false
namespace Go.Proofs.YtffhjmepfojhnaaGreat
open _root_.Go.Proofs.Tryz
section
open Go.RowKit
def dG (w':World) (lo:Nat) (v1 v2 v3 v4:Value) (x:Wo):Prop:=aF w' lo v1 x.ch.cells∧aI w' lo v2 x.ch.words∧dY w' lo v3 x.hands∧gU w' lo v4 x.deals
def ig (w w':World) (x:Wo) (t:Value) (r:Ending):Prop:=(∃ v1 v2 v3 v4,r=.returned (.tuple #[.agg #[x.ch.cap,x.ch.sent,x.ch.got,x.ch.fin,v1,v2,v3,v4,x.now],t])∧dG w' w v1 v2 v3 v4 x)∧Below w w w'
theorem CP (w':World) (lo:Nat):dG w' lo (.slice none 0 0) (.slice none 0 0) (.slice none 0 0) (.slice none 0 0) Wo.zero:=⟨World.ownsRow_nil _ _ _ _,World.ownsRow_nil _ _ _ _,World.ownsRow_nil _ _ _ _,World.ownsRow_nil _ _ _ _⟩
def xx (x v:Value):Sem Unit:=Instr.storeAt 49 x v
theorem jv (x v:Value):Instr.storeAt 49 x v=xx x v:=by unfold xx;simp
theorem iG {w:World} {b:Nat} (x:Ha) (h:okO 14 (hp w b)=true):(xx (.pointer (some ⟨b,0,none⟩)) (.agg (aB x))).run prog w=.ok () (dX w b (aB x)):=dW x h
def jw (w:World) (b o:Nat) (x:Ha):World :=
 (((((((((((((w.setCell ⟨b,o+0,none⟩ (.int .i64 x.pos)).setCell ⟨b,o+1,none⟩ (.int .i64 x.code)).setCell ⟨b,o+2,none⟩ (.int .i64 x.elem)).setCell ⟨b,o+3,none⟩ (.int .i64 x.cell)).setCell ⟨b,o+4,none⟩ (.int .i64 x.seen)).setCell ⟨b,o+5,none⟩ (.int .i64 x.wait)).setCell ⟨b,o+6,none⟩ (.int .i64 x.fin)).setCell ⟨b,o+7,none⟩ (.int .i64 x.come)).setCell ⟨b,o+8,none⟩ (.int .i64 x.grow)).setCell ⟨b,o+9,none⟩ (.int .i64 x.mine)).setCell ⟨b,o+10,none⟩ (.int .i64 x.nxt)).setCell ⟨b,o+11,none⟩ (.int .i64 x.beg)).setCell ⟨b,o+12,none⟩ (.int .i64 x.reply)).setCell ⟨b,o+13,none⟩ (.int .i64 x.out)
theorem zx {w:World} {b o:Nat} (x:Ha) (h:∀ j,j<14→∃ v,w.cell? ⟨b,o+j,none⟩=some v) (X:∀ j,w.frozen? ⟨b,j,none⟩=false):(xx (.pointer (some ⟨b,o,none⟩)) (.agg (aB x))).run prog w=.ok () (jw w b o x):=by
 obtain ⟨Y,F⟩:=h 0 tO;obtain ⟨u1,h1⟩:=h 1 tO;obtain ⟨u2,h2⟩:=h 2 tO;obtain ⟨u3,h3⟩:=h 3 tO;obtain ⟨u4,O⟩:=h 4 tO;obtain ⟨Z,R⟩:=h 5 tO;obtain ⟨u6,h6⟩:=h 6 tO;obtain ⟨u7,T⟩:=h 7 tO;obtain ⟨u8,U⟩:=h 8 tO;obtain ⟨u9,V⟩:=h 9 tO;obtain ⟨K,G⟩:=h 10 tO;obtain ⟨L,H⟩:=h 11 tO;obtain ⟨M,I⟩:=h 12 tO;obtain ⟨N,J⟩:=h 13 tO;simp only [Nat.add_zero] at F;simp [xx,aB,go_sem,jw, *]
theorem l9 (w:World) (b o:Nat) (x:Ha):w.grownBy (jw w b o x) (some b):=by
 unfold jw
 repeat (first|with_reducible exact gR _ _|with_reducible refine gS ?_ (.inl rfl))
theorem lQ (w:World) (b o:Nat) (x:Ha):(jw w b o x).heap.size=w.heap.size:=by simp [jw]
theorem M5:∀ (hs:List Ha) (i:Nat) (x:Ha),i<hs.length →
  lS (hs.set i x)=(((((((((((((((lS hs).set (i*14+0) (.int .i64 x.pos)).set (i*14+1) (.int .i64 x.code)).set (i*14+2) (.int .i64 x.elem)).set (i*14+3) (.int .i64 x.cell)).set (i*14+4) (.int .i64 x.seen)).set (i*14+5) (.int .i64 x.wait)).set (i*14+6) (.int .i64 x.fin)).set (i*14+7) (.int .i64 x.come)).set (i*14+8) (.int .i64 x.grow)).set (i*14+9) (.int .i64 x.mine)).set (i*14+10) (.int .i64 x.nxt)).set (i*14+11) (.int .i64 x.beg)).set (i*14+12) (.int .i64 x.reply)).set (i*14+13) (.int .i64 x.out)):=by
 intro hs i x G;apply List.ext_getElem?;intro n;by_cases I:n<hs.length*14
 ·have e:n=n / 14*14+n % 14:=by omega
  have h1:=nI (hs.set i x) (n / 14) (n % 14) dQ tO;have h2:=nI hs (n / 14) (n % 14) tO tO;rw [← e] at h1 h2;rw [h1];by_cases F:n / 14=i
  ·subst F
   have hr:n % 14=0∨n % 14=1∨n % 14=2∨n % 14=3∨n % 14=4∨n % 14=5∨n % 14=6∨n % 14=7∨n % 14=8∨n % 14=9∨n % 14=10∨n % 14=11∨n % 14=12∨n % 14=13:=tO;have H:=nH hs;rcases hr with hr|hr|hr|hr|hr|hr|hr|hr|hr|hr|hr|hr|hr|hr
   all_goals (rw [hr] at e ⊢;simp only [List.getElem?_set,List.length_set];simp (disch:=omega) only [if_neg,if_pos,fO,List.getD_eq_getElem?_getD,List.getElem?_set,aB,Array.getD];simp [G,H,aB,fO,Array.getD])
  ·simp only [List.getElem?_set,List.length_set]
   simp (disch:=omega) only [if_neg];rw [h2];simp [fO,List.getD,List.getElem?_set,Ne.symm F]
 ·rw [List.getElem?_eq_none (by rw [nH];simp;omega),List.getElem?_eq_none (by simp [nH];omega)]
theorem dY.open1 {w:World} {lo:Nat} {v:Value} {hs:List Ha} (h:dY w lo v hs) {i:Nat} (H:i<hs.length) :
  ∃ g cap,v=.slice (some ⟨g,0,none⟩) hs.length cap∧lo≤g∧g<w.heap.size∧(∀ j,j<14→w.cell? ⟨g,i*14+j,none⟩=some ((aB (hs.getD i Ha.zero)).getD j (.int .i64 0)))∧∀ o,w.frozen? ⟨g,o,none⟩=false:=by
 have h2:=h;rcases h.2 with ⟨_,K⟩|⟨g,cap,G,rfl,J,F,_⟩
 ·omega
 ·refine ⟨g,cap,rfl,J,(Array.getElem?_eq_some_iff.1 F).1,fun j I=>?_,fun o=>by simp [World.frozen?,F]⟩
  have:=h2.cells (g:=g) rfl (i*14+j) _ (nI hs i j H I);rw [show (aB (hs.getD i Ha.zero)).getD j (.int .i64 0)=fO hs i j from rfl,← this];congr 1;by_cases e:i*14+j=0 <;> simp [Addr.add,e] <;> omega
theorem dY.set {w:World} {lo g cap:Nat} {hs:List Ha} (h:dY w lo (.slice (some ⟨g,0,none⟩) hs.length cap) hs) {i:Nat} (F:i<hs.length) (x:Ha) :
  dY (jw w g (i*14) x) lo (.slice (some ⟨g,0,none⟩) hs.length cap) (hs.set i x):=by
 have G:=nH hs;unfold dY jw;rw [M5 hs i x F,List.length_set]
 iterate 14 (refine kJ ?_ _ (by (try simp only [List.length_set]);omega) _)
 exact h
end
section
open Go.RowKit
attribute [local simp] dz
attribute [local go_sem ↓] dA dO dP jv bK
attribute [local go_sem] iG
theorem M6 (x:Wo) (who I ee:Int) (a b d e:Option Addr) (p q r s:Nat) (w:World) (h1:gG w w a x.ch.cells) (z1:a=none→p=0) (h2:gI w w b x.ch.words) (O:b=none→q=0) (h3:qX w w d x.hands) (R:d=none→x.hands.length=0∧r=0) (L:uh w w e x.deals) (T:e=none→x.deals.length=0∧s=0) (m1:x.ch.cells.length≤1099511627776) (m2:x.ch.words.length≤1099511627776) (Z:x.hands.length≤1099511627776) (m4:x.deals.length≤1099511627776) (N:dB x=false) :
  Calls prog 132 #[oI x a b d e p q r s,.int .i64 who,.agg #[.int .i64 I,.int .i64 ee]] w fun r w'=>ig w w' (asked x who I ee).1 (.int .i64 (asked x who I ee).2) r:=by
 have K:asked x who I ee=(Wo.zero,3):=by simp [asked,N]
 rw [K];have U:=aA h1;have V:=aA h2;have X:=aA h3;have Y:=aA L;have Z1:=aA z1;have Z2:=aA O;have Z3:=aA R;have Z4:=aA T;clear h1 h2 h3 L z1 O R T;clear K;go_enter func132,ntmps132;go_wp2_with fail;refine aK w zB fun G=>?_;refine (eY x a b d e p q r s _ (aT U G) (aT V G) (aT X G) (aT Y G) Z m4).mono ?_;rintro _ w1 ⟨rfl,F⟩;have M:=bT G F;have H:=F.size;(try simp at H);have J:=And.intro (sJ F (b:=w+1+1)) <| And.intro (sJ F (b:=w+1)) <| sJ F (b:=w);(try simp [go_sem] at J);replace bX:=J;clear J F G
 rw [N];exact U6
theorem M7 (x:Wo) (who L ee:Int) (a b d e:Option Addr) (p q r s:Nat) (w:World) (h1:gG w w a x.ch.cells) (z1:a=none→p=0) (h2:gI w w b x.ch.words) (Y:b=none→q=0) (h3:qX w w d x.hands) (Z:d=none→x.hands.length=0∧r=0) (R:uh w w e x.deals) (z4:e=none→x.deals.length=0∧s=0) (m1:x.ch.cells.length≤1099511627776) (m2:x.ch.words.length≤1099511627776) (X:x.hands.length≤1099511627776) (m4:x.deals.length≤1099511627776) (V:dB x=true) (ht:bW x who=false) :
  Calls prog 132 #[oI x a b d e p q r s,.int .i64 who,.agg #[.int .i64 L,.int .i64 ee]] w fun r w'=>ig w w' (asked x who L ee).1 (.int .i64 (asked x who L ee).2) r:=by
 have O:asked x who L ee=(Wo.zero,3):=by simp [asked,V,ht]
 rw [O];have H1:=aA h1;have H2:=aA h2;have H3:=aA h3;have H4:=aA R;have Z1:=aA z1;have Z2:=aA Y;have Z3:=aA Z;have Z4:=aA z4;clear h1 h2 h3 R z1 Y Z z4;clear O;have M:gP x.hands who=false:=ht;clear ht;go_enter func132,ntmps132;go_wp2_with fail;refine aK w zB fun H=>?_;refine (eY x a b d e p q r s _ (aT H1 H) (aT H2 H) (aT H3 H) (aT H4 H) X m4).mono ?_;rintro _ w1 ⟨rfl,F⟩;have T:=bT H F;have J:=F.size;(try simp at J);have I:=And.intro (sJ F (b:=w+1+1)) <| And.intro (sJ F (b:=w+1)) <| sJ F (b:=w);(try simp [go_sem] at I);replace N:=I;clear I F H
 rw [V];go_wp2_with fail;refine aK w zB fun H=>?_;refine (iq x.ch x.hands x.now who _ _ _ _ _ _ _ _ _ _ _ X _).mono ?_;rintro _ w2 ⟨rfl,G⟩;have U:=bT H G;have K:=G.size;(try simp at K);have I:=And.intro (sJ G (b:=w+1+1)) <| And.intro (sJ G (b:=w+1)) <| sJ G (b:=w);(first|simp [go_sem,N] at I|simp [go_sem] at I|skip);replace N:=I;clear I G H
 rw [M];exact U6
theorem yM (x:Wo) (who Z ee:Int) (a b d e:Option Addr) (p q r s:Nat) (w:World) (h1:gG w w a x.ch.cells) (z1:a=none→p=0) (h2:gI w w b x.ch.words) (z2:b=none→q=0) (h3:qX w w d x.hands) (z3:d=none→x.hands.length=0∧r=0) (h4:uh w w e x.deals) (z4:e=none→x.deals.length=0∧s=0) (m1:x.ch.cells.length≤1099511627776) (m2:x.ch.words.length≤1099511627776) (m3:x.hands.length≤1099511627776) (m4:x.deals.length≤1099511627776) (hk:dB x=true) (ht:bW x who=true) :
  (∀ (hc:((called (aJ x who) Z ee).2 != 0)=true),Calls prog 132 #[oI x a b d e p q r s,.int .i64 who,.agg #[.int .i64 Z,.int .i64 ee]] w fun r w'=>ig w w' (asked x who Z ee).1 (.int .i64 (asked x who Z ee).2) r) ∧
  (∀ (hc:((called (aJ x who) Z ee).2 != 0)=false) (hn:(x.now == 20000)=true),Calls prog 132 #[oI x a b d e p q r s,.int .i64 who,.agg #[.int .i64 Z,.int .i64 ee]] w fun r w'=>ig w w' (asked x who Z ee).1 (.int .i64 (asked x who Z ee).2) r):=by
 constructor
 case' left =>
  intro hc;have mA:Hid (0=0):=rfl
 case' right =>
  intro hc hn;have mB:Hid (0=0):=rfl
 all_goals
  have H1:=aA h1;have H2:=aA h2;have H3:=aA h3;have H4:=aA h4;have Z1:=aA z1;have Z2:=aA z2;have Z3:=aA z3;have Z4:=aA z4;clear h1 h2 h3 h4 z1 z2 z3 z4;obtain ⟨i,rfl⟩:∃ i:Nat,who=(i:Int):=⟨who.toNat,by simp [bW,gP,dV] at ht;omega⟩;have hi:i<x.hands.length:=by simp [bW,gP,dV] at ht;omega
  obtain ⟨V,o3,rfl,a3,a8⟩:∃ b o,d=some ⟨b,o,none⟩∧b<w.heap.size∧Hid (∀ i j,i<x.hands.length→j<14→w.cell? ⟨b,o+i*14+j,none⟩=some (fO x.hands i j)):=by
   rcases H3.out with h0|h0
   ·omega
   ·exact h0
  have ai:∀ W:World,hp W V=hp w V→(nY (.pointer (some ⟨V,o3+i*14,none⟩))).run prog W=.ok (.agg (aB (aJ x i))) W:=fun W e=>lJ _ fun j hj=>by rw [show (aB (aJ x i)).getD j (.int .i64 0)=fO x.hands i j by simp [fO,aJ],← a8.out i j hi hj];exact World.cell?_of_block e
  have aj:(0:Int)≤(i:Int):=tO;have ak:(i:Int)<(x.hands.length:Int):=tO
  first
  | (replace mA:=mA;have e0:asked x i Z ee=(x,(called (aJ x i) Z ee).2):=by simp at hc;simp [asked,hk,ht,hc])
  | (replace mB:=mB;have e0:asked x i Z ee=(x,1):=by simp at hc hn;simp [asked,hk,ht,hc,hn])
  rw [e0];have aa:gP x.hands i=true:=ht;clear e0 ht;go_enter func132,ntmps132;go_wp2_with fail;refine aK w zB fun X=>?_;refine (eY x a b _ e p q r s _ (aT H1 X) (aT H2 X) (aT H3 X) (aT H4 X) m3 m4).mono ?_;rintro _ w1 ⟨rfl,K⟩;have ag:Below w w w1:=bT X K;have a4:=K.size;(try simp at a4);have zz:=And.intro (fun o=>K.cell (p:=⟨w+1+1,o,none⟩) tS) <| And.intro (fun o=>K.frozen (p:=⟨w+1+1,o,none⟩) tS) <| And.intro (fun o=>K.cell (p:=⟨w+1,o,none⟩) tS) <| And.intro (fun o=>K.frozen (p:=⟨w+1,o,none⟩) tS) <| And.intro (fun o=>K.cell (p:=⟨w,o,none⟩) tS) <| fun o=>K.frozen (p:=⟨w,o,none⟩) tS;(try simp [go_sem] at zz);(try clear G H);(try clear J O);(try clear T Y);obtain ⟨G,H,J,O,T,Y⟩:=zz;(try clear F);have F:w+1+1<w1.heap.size:=tO;(try clear I);have I:w+1<w1.heap.size:=tO;(try clear R);have R:w<w1.heap.size:=tO;clear K X
  rw [hk];go_wp2_with fail;refine aK w zB fun X=>?_;refine (iq x.ch x.hands x.now i _ _ _ _ _ _ _ _ _ _ _ m3 _).mono ?_;rintro _ w2 ⟨rfl,L⟩;have ah:Below w w w2:=bT X L;have a5:=L.size;(try simp at a5);have zz:=And.intro (fun o=>L.cell (p:=⟨w+1+1,o,none⟩) tS) <| And.intro (fun o=>L.frozen (p:=⟨w+1+1,o,none⟩) tS) <| And.intro (fun o=>L.cell (p:=⟨w+1,o,none⟩) tS) <| And.intro (fun o=>L.frozen (p:=⟨w+1,o,none⟩) tS) <| And.intro (fun o=>L.cell (p:=⟨w,o,none⟩) tS) <| fun o=>L.frozen (p:=⟨w,o,none⟩) tS;(first|simp [go_sem,G,H,J,O,T,Y,R,I,F] at zz|simp [go_sem,G,J,T,R,I,F] at zz|simp [go_sem] at zz|skip);(try clear G H);(try clear J O);(try clear T Y);obtain ⟨G,H,J,O,T,Y⟩:=zz;(try clear F);have F:w+1+1<w2.heap.size:=tO;(try clear I);have I:w+1<w2.heap.size:=tO;(try clear R);have R:w<w2.heap.size:=tO;clear L X
  rw [aa];go_wp2_with fail;refine aK w zB fun X=>?_;refine (iR x a b _ e p q r s _ (aT H1 X) Z1.out (aT H2 X) Z2.out (aT H3 X) Z3.out (aT H4 X) Z4.out m1 m2 m3 m4).mono ?_;rintro _ U ⟨⟨v1,v2,v3,v4,rfl,o1,o2,a1,o4⟩,M⟩;have a2:Below w w U:=bT X M;have a6:=M.size;(try simp at a6);have zz:=And.intro (fun o=>M.cell (p:=⟨w+1+1,o,none⟩) tS) <| And.intro (fun o=>M.frozen (p:=⟨w+1+1,o,none⟩) tS) <| And.intro (fun o=>M.cell (p:=⟨w+1,o,none⟩) tS) <| And.intro (fun o=>M.frozen (p:=⟨w+1,o,none⟩) tS) <| And.intro (fun o=>M.cell (p:=⟨w,o,none⟩) tS) <| fun o=>M.frozen (p:=⟨w,o,none⟩) tS;(first|simp [go_sem,G,H,J,O,T,Y,R,I,F] at zz|simp [go_sem,G,J,T,R,I,F] at zz|simp [go_sem] at zz|skip);(try clear G H);(try clear J O);(try clear T Y);obtain ⟨G,H,J,O,T,Y⟩:=zz;(try clear F);have F:w+1+1<U.heap.size:=tO;(try clear I);have I:w+1<U.heap.size:=tO;(try clear R);have R:w<U.heap.size:=tO;clear M X
  try simp at o1 o2 a1 o4
  have O1:=aA o1;have O2:=aA o2;have O3:=aA a1;have O4:=aA o4;obtain ⟨va,vc,rfl,_⟩:=aF.seg o1;obtain ⟨vb,vd,rfl,_⟩:=aI.seg o2;obtain ⟨vf,vg,rfl,_⟩:=dY.seg a1;obtain ⟨vh,vi,rfl,_⟩:=gU.seg o4;clear o1 o2 a1 o4;have z3:hp U V=hp w V:=a2.block V a3;have al:V<U.heap.size:=tO;have pq:V≠U.heap.size:=tO;have k0:w<U.heap.size:=tO;have k1:w+1<U.heap.size:=tO;have k2:w+1+1<U.heap.size:=tO;have am:V<U.heap.size+1:=tO
  have fP:V≠U.heap.size+1:=tO;go_wp2_with fail
  go_region_held3 (fun w'=>w'.cell? ⟨w,6,none⟩=some (.slice (some ⟨V,o3,none⟩) x.hands r)∧hp w' V=hp w V∧w'.cell? ⟨w+1,0,none⟩=some (.int .i64 Z)∧w'.cell? ⟨w+1,1,none⟩=some (.int .i64 ee))
   (first|(simp [*,go_sem]))
   (first|(go_at_call 176;refine (yE (aJ x i) Z ee _).mono ?_;rintro _ w4 ⟨rfl,N⟩;have a7:Below w w w4:=bT zB N;have a0:Below U U w4:=bT zB N;have a9:=N.size;(try simp at a9);have x4:=fun o=>N.cell (p:=⟨w,o,none⟩) iU;have ae:=fun o=>N.cell (p:=⟨w+1,o,none⟩) iU;have y4:=fun o=>N.cell (p:=⟨w+1+1,o,none⟩) iU;have af:=fun o=>N.frozen (p:=⟨w+1+1,o,none⟩) iU;have v4:=fun o=>N.cell (p:=⟨U,o,none⟩) iU;have ad:=fun o=>N.frozen (p:=⟨U,o,none⟩) iU;have t4:=fun o=>N.cell (p:=⟨U+1,o,none⟩);have ab:=fun o=>N.frozen (p:=⟨U+1,o,none⟩);have ac:=o9 N (b:=U+1);have ao:hp w4 V=hp w V:=a7.block V a3;(simp [go_sem,T,R,k0] at x4);(simp [go_sem,J,I,k1] at ae);(simp [go_sem,G,F,k2] at y4);(simp [go_sem,H,F,k2] at af);(simp [go_sem] at v4);(simp [go_sem] at ad);(try simp [go_sem] at t4);(try simp [go_sem] at ab);(try simp [go_sem] at ac);have n0:w<w4.heap.size:=tO;have n1:w+1<w4.heap.size:=tO;have an:w+1+1<w4.heap.size:=tO;have n2:U<w4.heap.size:=tO;have n3:V<w4.heap.size:=tO;have n4:V≠w4.heap.size:=tO))
  all_goals go_wp2
  all_goals (have o1:=own_below O1.out a0;have o2:=own_below O2.out a0;have o3:=own_below O3.out a0;have o4:=own_below O4.out a0;have q1:=O1.out;have q2:=O2.out;have q3:=O3.out;have q4:=O4.out;have p1:=aL (lo':=w) o1 tO;have p2:=aL (lo':=w) o2 tO;have p3:=aL (lo':=w) o3 tO;have p4:=aL (lo':=w) o4 tO)
  first
  | (replace mA:=mA;all_goals (refine bodyPost_ret (v:=.tuple #[.agg #[x.ch.cap,x.ch.sent,x.ch.got,x.ch.fin,.slice va x.ch.cells vc,.slice vb x.ch.words vd,.slice vf x.hands vg,.slice vh x.deals vi,.int .i64 (x.now)],.int .i64 (called (aJ x i) Z ee).2]) (by simp [results,results132,go_sem, *]) rfl ⟨⟨_,_,_,_,rfl,?_,?_,?_,?_⟩,zB⟩))
  | (replace mB:=mB;all_goals (refine bodyPost_ret (v:=.tuple #[.agg #[x.ch.cap,x.ch.sent,x.ch.got,x.ch.fin,.slice va x.ch.cells vc,.slice vb x.ch.words vd,.slice vf x.hands vg,.slice vh x.deals vi,.int .i64 (x.now)],.int .i64 1]) (by simp [results,results132,go_sem, *]) rfl ⟨⟨_,_,_,_,rfl,?_,?_,?_,?_⟩,zB⟩))
  all_goals first|((repeat first|with_reducible exact p1|with_reducible refine xG ?_ _|with_reducible refine wM ?_|((with_reducible first|refine aV ?_ ?_ _|refine fC ?_ ?_);rotate_left;focus first|(refine own_ne q1 ?_;(try dsimp only);omega)|(refine dN q1 ?_;(try dsimp only);omega)));done)|skip
  all_goals first|((repeat first|with_reducible exact p2|with_reducible refine xG ?_ _|with_reducible refine wM ?_|((with_reducible first|refine aV ?_ ?_ _|refine fC ?_ ?_);rotate_left;focus first|(refine own_ne q2 ?_;(try dsimp only);omega)|(refine dN q2 ?_;(try dsimp only);omega)));done)|skip
  all_goals first|((repeat first|with_reducible exact p3|with_reducible refine xG ?_ _|with_reducible refine wM ?_|((with_reducible first|refine aV ?_ ?_ _|refine fC ?_ ?_);rotate_left;focus first|(refine own_ne q3 ?_;(try dsimp only);omega)|(refine dN q3 ?_;(try dsimp only);omega)));done)|skip
  all_goals first|((repeat first|with_reducible exact p4|with_reducible refine xG ?_ _|with_reducible refine wM ?_|((with_reducible first|refine aV ?_ ?_ _|refine fC ?_ ?_);rotate_left;focus first|(refine own_ne q4 ?_;(try dsimp only);omega)|(refine dN q4 ?_;(try dsimp only);omega)));done)|skip
theorem Jr (x:Wo) (who F ee:Int) (a b d e:Option Addr) (p q r s:Nat) (w:World) (h1:gG w w a x.ch.cells) (z1:a=none→p=0) (h2:gI w w b x.ch.words) (M:b=none→q=0) (h3:qX w w d x.hands) (N:d=none→x.hands.length=0∧r=0) (G:uh w w e x.deals) (O:e=none→x.deals.length=0∧s=0) (I:x.ch.cells.length≤1099511627776) (J:x.ch.words.length≤1099511627776) (K:x.hands.length≤1099511627776) (L:x.deals.length≤1099511627776) (H:dB x=true) (ht:bW x who=true) (hc:((called (aJ x who) F ee).2 != 0)=true) :
  Calls prog 132 #[oI x a b d e p q r s,.int .i64 who,.agg #[.int .i64 F,.int .i64 ee]] w fun r w'=>ig w w' (asked x who F ee).1 (.int .i64 (asked x who F ee).2) r:=(yM x who F ee a b d e p q r s w h1 z1 h2 M h3 N G O I J K L H ht).1 hc
theorem Js (x:Wo) (who F ee:Int) (a b d e:Option Addr) (p q r s:Nat) (w:World) (h1:gG w w a x.ch.cells) (z1:a=none→p=0) (h2:gI w w b x.ch.words) (N:b=none→q=0) (h3:qX w w d x.hands) (O:d=none→x.hands.length=0∧r=0) (G:uh w w e x.deals) (R:e=none→x.deals.length=0∧s=0) (J:x.ch.cells.length≤1099511627776) (K:x.ch.words.length≤1099511627776) (L:x.hands.length≤1099511627776) (M:x.deals.length≤1099511627776) (H:dB x=true) (ht:bW x who=true) (hc:((called (aJ x who) F ee).2 != 0)=false) (I:(x.now == 20000)=true) :
  Calls prog 132 #[oI x a b d e p q r s,.int .i64 who,.agg #[.int .i64 F,.int .i64 ee]] w fun r w'=>ig w w' (asked x who F ee).1 (.int .i64 (asked x who F ee).2) r:=(yM x who F ee a b d e p q r s w h1 z1 h2 N h3 O G R J K L M H ht).2 hc I
end
section
open Go.RowKit
theorem Dn {P:Program} {R:Array Oper} {o:Oper} {a:Act} {K:Act→World→Prop} {Q:Exit→Act→World→Prop} {E:Prop} {w:World} (X:o.guard=none) (s x:Operand) (t:TypeId)
  (ho:o.op=.call { callee:=.builtin .append,args:=#[s,x],argTypes:=#[t,t] })
  (G:Nat) (e:TypeId) (i:TypeInfo) (z:Value) (size H:Nat) (ht:P.underlying t=some (.slice e)) (hi:P.info? e=some i) (hz:i.zero=some z)
  (N:i.size=size) (V:i.bytes=H) (a0:z.cells.size=size) (Y:0<size)
  (v:Value) (n:Nat) (T:List Value) (hs:a.eval s=v) (I:w.ownsRow G e size v n T)
  (b:Option Addr) (m c:Nat) (F:List Value) (hx:a.eval x=.slice b m c) (Z:b=none→m=0∧c=0) (hl:F.length=m*size) (M:∀ O,b=some O→∀ j u,F[j]?=some u→w.cell? (O.add j)=some u) (h1:∀ u ∈ F,u.oneCell'=true)
  (U:n+m≤maxLen) (J:(n+m)*H≤140737488355328) (L:G≤w.heap.size)
  (h:∀ v' w',w'.ownsRow G e size v' (n+m) (T ++ F)→w.grownBy w' v.ownBlock→K (a.put o.dst v') w') :
  if Region.wanted o (yielded R a.tmps)=true then Oper.wp P o a w K Q else E:=by
 have hw:Region.wanted o (yielded R a.tmps)=true:=by simp [Region.wanted,X]
 rw [if_pos hw];rcases b with _|O
 ·obtain ⟨rfl,rfl⟩:=Z rfl
  have hr:=run_append_owned_none (P:=P) (w:=w) G t o.type e i size ht hi v n T I;obtain rfl:F=[]:=List.eq_nil_of_length_eq_zero (by simpa using hl);unfold Oper.wp execOp;simp only [ho,resolve,invoke,builtin,Sem.run_bind,Sem.run_pure,Result.andThen_ok,List.map_toArray,List.map_cons,List.map_nil,hs,hx,hr];exact h v w wT (KR _ _)
 ·obtain ⟨v',w',hr,r1,r2,_⟩:=run_append_own (P:=P) w G t o.type e i z size H ht hi hz N V a0 Y v n T I O m c F hl (M O rfl) h1 U J L
  unfold Oper.wp execOp;simp only [ho,resolve,invoke,builtin,Sem.run_bind,Sem.run_pure,Result.andThen_ok,List.map_toArray,List.map_cons,List.map_nil,hs,hx,hr];exact h v' w' r1 r2
end
section
theorem In.f_t3 {x:Lc} (h:In x) (F:x.rp=62):x.sw≠3:=by
 have:=h.imp (fun x=>Nat.beq x.rp 62) (fun x=>!(Nat.beq x.sw 3)) bH gN;exact mM
theorem In.f_g29 {x:Lc} (h:In x) (F:x.gp=29):x.sw≠3:=by
 have:=h.imp (fun x=>Nat.beq x.gp 29) (fun x=>!(Nat.beq x.sw 3)) bH gN;exact mM
theorem In.f_s6 {x:Lc} (h:In x) (F:x.s=6):x.gp=20∨x.gp=21∨x.gp=22:=by
 have:=h.imp (fun x=>Nat.beq x.s 6) (fun x=>Nat.beq x.gp 20 || (Nat.beq x.gp 21 || Nat.beq x.gp 22)) bH gN;exact mM
theorem In.f_s5 {x:Lc} (h:In x) (F:x.s=5):x.rp=13∨x.rp=14∨x.rp=15:=by
 have:=h.imp (fun x=>Nat.beq x.s 5) (fun x=>Nat.beq x.rp 13 || (Nat.beq x.rp 14 || Nat.beq x.rp 15)) bH gN;exact mM
theorem M8 {h:Ha} (F:aU h=true) (k:h.code=1) (p:h.pos≠0):0≤h.elem∧h.elem≤999:=by
 have:=xQ F p;simpa [eD,k,dV] using this
theorem wz {h:Ha} (F:aU h=true) (p:h.pos≠0) (v:Int) (G:0≤v∧v≤2):aU (dL h v)=true:=by
 have B:=(hb_iff.1 F).2;exact jV F p (by show (1:Int)≤16∧(16:Int)≤25;omega) rfl rfl ⟨B.cell,B.grow,B.seen,B.wait,B.mine,B.fin,B.come,G,B.beg,B.reply,B.out⟩
theorem A7 {c:Ch} {h y:Ha} (C:CB c) (F:aU h=true) (p:h.pos≠0) (H:aU y=true) (t v:Int) (ht:0≤t∧t≤10) (G:0≤v∧v≤c.words.length):(iF c h t v y).2.2=true:=by
 have T:=iT.2 (C.turn h.cell h.seen t v ht G);unfold iF;split
 ·exact dZ T H
 ·exact dZ T (iA F p 10 tO)
theorem GD {c:Ch} {h y:Ha} (C:CB c) (F:aU h=true) (p:h.pos≠0) (H:aU y=true) (t v:Int) (ht:0≤t∧t≤10) (G:0≤v∧v≤c.words.length):(kF c h t v y).2.2=true:=by
 have T:=iT.2 (C.turn h.grow h.seen t v ht G);unfold kF;split
 ·exact dZ T H
 ·exact dZ T (iA F p 18 tO)
theorem Jt {h:Ha} (G:aU h=true) (p:h.pos≠0) {n:Nat} {x:C3} (H:fw n x=true):aU (dC h x)=true:=by
 have B:=(hb_iff.1 G).2;have F:=jm.1 H;have A:=(hb_iff.1 G).1;refine hb_iff.2 ⟨A,⟨B.cell,B.grow,F.1,F.2.2.1,B.mine,B.fin,B.come,B.nxt,B.beg,B.reply,B.out⟩⟩
theorem DV {c:Ch} {h:Ha} (C:CB c) (F:aU h=true) (p:h.pos≠0) (s:h.seen=0∨h.seen=1):(jS c h).2.2=true:=by
 have hc:=iT.2 C;unfold jS;rw [if_neg (by rcases s with s|s <;> simp [s])];split
 ·exact dZ (iT.2 (C.wait _ _ _ _ tO)) (Dm C F p _ _ _ tO tO)
 ·split
  ·exact dZ (iT.2 (C.turn _ _ _ _ tO tO)) (lN _ _ tO tO)
  ·exact dZ (iT.2 (C.turn _ _ _ _ tO tO)) (iA F p 3 tO)
theorem Q.goS {c:Ch} {hs:List Ha} {g:Gh} {i:Nat} (q:Q c hs g) (K:i<hs.length) (hc:aN c=true) (G:aU (aD hs i)=true) (M:1≤(aD hs i).pos) (N:(aD hs i).pos≤8):(bE c (aD hs i)).2.2=true:=by
 have C:=iT.1 hc;have B:=(hb_iff.1 G).2;have H:(aD hs i).pos≠0:=tO;have hok:(aD hs i).code=1→bC c (aD hs i) 1 8 1=true:=fun L=>by
  have:dV (aD hs i).pos 1 8=true:=by simp only [dK];omega
  simp [bC,hc,G,this,L]
 cases q.hand i K with
 | s0 k p =>
  simp only [bE,hok k,p,if_true];simp only [BEq.rfl,if_true,vC];split
  ·exact dZ hc (lN _ _ tO tO)
  ·rename_i J
   have:=C.sent;have:c.sent≠40:=by simpa using J
   refine dZ (iT.2 ⟨C.cap,?_,C.got,C.fin,C.len,C.wlen,C.cells,C.words⟩) (jV G H (by show (1:Int)≤2∧(2:Int)≤25;omega) rfl rfl ⟨?_,B.grow,B.seen,B.wait,B.mine,B.fin,B.come,B.nxt,B.beg,B.reply,B.out⟩)
   ·show 0≤c.sent+1∧c.sent+1≤40;omega
   ·show 0≤c.sent∧c.sent≤39;omega
 | sL n hn k ce el p z =>
  simp only [bE,hok k,p];exact dZ (iT.2 (C.lay _ _ (M8 G k H))) (iA G H 3 tO)
 | sK n hn k ce el p z =>
  simp only [bE,hok k,p];simp only [vD,kZ,gQ ce];have F:=C.at (aD hs i).cell;rw [gQ ce] at F;have cl:=q.cell n hn;rcases (q.way n hn).f_look z with s|s|s|s|s
  ·have I:(aY c n).s=0:=by rw [cl.s,s];rfl
   simp [I];exact dZ hc (oV G H 4 tO C.wlen F)
  ·have I:(aY c n).s=1:=by rw [cl.s,s];rfl
   simp [I];exact dZ hc (oV G H 6 tO C.wlen F)
  ·have I:(aY c n).s=4:=by rw [cl.s,s];rfl
   simp [I];exact dZ hc (oV G H 7 tO C.wlen F)
  ·have I:(aY c n).s=8:=by rw [cl.s,s];rfl
   simp [I];exact dZ hc (show aU (anew (aD hs i))=true from oU G H)
  ·have I:(aY c n).s=10:=by rw [cl.s,s];rfl
   simp [I];exact dZ hc (show aU (anew (aD hs i))=true from oU G H)
 | sE n hn k ce el p z s =>
  simp only [bE,hok k,p];exact dZ hc (jV G H (by show (1:Int)≤5∧(5:Int)≤25;omega) rfl rfl ⟨B.cell,B.grow,B.seen,B.wait,B.mine,C.fin,B.come,B.nxt,B.beg,B.reply,B.out⟩)
 | sM0 n hn k ce el p z s f =>
  simp only [bE,hok k,p];exact dZ hc (jV G H (by show (1:Int)≤6∧(6:Int)≤25;omega) rfl rfl ⟨B.cell,B.grow,B.seen,B.wait,B.mine,B.fin,C.got,B.nxt,B.beg,B.reply,B.out⟩)
 | sM1 n hn k ce el p z s f =>
  simp only [bE,hok k,p];exact dZ hc (jV G H (by show (1:Int)≤6∧(6:Int)≤25;omega) rfl rfl ⟨B.cell,B.grow,B.seen,B.wait,B.mine,B.fin,C.got,B.nxt,B.beg,B.reply,B.out⟩)
 | sP1 n hn k ce el p z s =>
  simp only [bE,hok k,p];exact DV C G H (.inr s)
 | sP0 n hn k ce el p z s =>
  simp only [bE,hok k,p];exact DV C G H (.inl s)
 | sPk n hn k ce el p z s =>
  simp only [bE,hok k,p];exact DV C G H (.inl s)
 | sC n hn k ce el p z w =>
  simp only [bE,hok k,p];refine dZ (iT.2 (C.tell _ _)) ?_;unfold nZ;cases eG c (aD hs i).wait 1 with
  | true=>exact iA G H 8 tO
  | false=>exact oU G H
 | sD n hn k ce el p z =>
  simp only [bE,hok k,p];exact dZ (iT.2 (C.state _ _ tO)) (lN _ _ tO tO)
 | _=>omega
theorem qO {c:Ch} {h:Ha} (C:CB c) (G:aU h=true) (p:h.pos≠0) (s:h.seen=0∨h.seen=1∨h.seen=2∨(h.seen=3∧h.wait≤c.words.length)):(fZ c h).2.2=true:=by
 have B:=(hb_iff.1 G).2;unfold fZ;split
 ·exact A7 C G p (wz G p _ tO) _ _ tO tO
 ·rename_i h2
  split
  ·rename_i h3
   have:h.seen=3:=by simpa using h3
   have:=B.wait;exact A7 C G p (iA G p 13 tO) _ _ tO tO
  ·rename_i h3
   have h2:h.seen≠2:=by simpa using h2
   have h3:h.seen≠3:=by simpa using h3
   rw [if_neg (by rcases s with s|s|s|s <;> simp [s] <;> omega)];split
   ·exact A7 C G p (wz G p _ tO) _ _ tO tO
   ·refine dZ (iT.2 (C.wait _ _ _ _ tO)) ?_
    have W:=Dm C G p 4 16 10 tO tO;unfold oH;split
    ·rename_i H
     have I:(fA c h 4 16 10).2.pos=16:=by simpa using H
     have F:=(hb_iff.1 W).2;exact jV W tO (by show 1≤(fA c h 4 16 10).2.pos∧(fA c h 4 16 10).2.pos≤25;omega) rfl rfl ⟨F.cell,F.grow,F.seen,F.wait,F.mine,F.fin,F.come,by show (0:Int)≤1∧(1:Int)≤2;omega,F.beg,F.reply,F.out⟩
    ·exact W
theorem Q.goR {c:Ch} {hs:List Ha} {g:Gh} {i:Nat} (q:Q c hs g) (K:i<hs.length) (hc:aN c=true) (G:aU (aD hs i)=true) (N:9≤(aD hs i).pos) (O:(aD hs i).pos≤15)
  (L:(aD hs i).pos=10→(cellAt c (aD hs i).cell).s≠6):(aO c (aD hs i)).2.2=true:=by
 have C:=iT.1 hc;have B:=(hb_iff.1 G).2;have H:(aD hs i).pos≠0:=tO;have hok:(aD hs i).code=2→bC c (aD hs i) 9 15 2=true:=fun M=>by
  have:dV (aD hs i).pos 9 15=true:=by simp only [dK];omega
  simp [bC,hc,G,this,M]
 cases q.hand i K with
 | r0 k p =>
  simp only [aO,hok k,p,if_true];simp only [BEq.rfl,if_true,sN];split
  ·exact dZ hc (lN _ _ tO tO)
  ·rename_i J
   have:=C.got;have:c.got≠40:=by simpa using J
   refine dZ (iT.2 ⟨C.cap,C.sent,?_,C.fin,C.len,C.wlen,C.cells,C.words⟩) (jV G H (by show (1:Int)≤10∧(10:Int)≤25;omega) rfl rfl ⟨?_,B.grow,B.seen,B.wait,B.mine,B.fin,B.come,B.nxt,B.beg,B.reply,B.out⟩)
   ·show 0≤c.got+1∧c.got+1≤40;omega
   ·show 0≤c.got∧c.got≤39;omega
 | rV n hn k ce p z =>
  have h6:=L p;rw [gQ ce] at h6;simp only [aO,hok k,p];simp only [sP,iV,gQ ce];have F:=C.at (aD hs i).cell;rw [gQ ce] at F;have cl:=q.cell n hn;rcases (q.way n hn).f_view z with s|s|s|s|s|s
  ·have I:(aY c n).s=0:=by rw [cl.s,s];rfl
   simp [I];exact dZ hc (uW G H 11 tO C.wlen F)
  ·have I:(aY c n).s=1:=by rw [cl.s,s];rfl
   simp [I];exact dZ hc (uW G H 11 tO C.wlen F)
  ·have I:(aY c n).s=2:=by rw [cl.s,s];rfl
   simp [I];exact dZ hc (uW G H 12 tO C.wlen F)
  ·have I:(aY c n).s=3:=by rw [cl.s,s];rfl
   simp [I];exact dZ hc (uW G H 12 tO C.wlen F)
  ·have I:(aY c n).s=9:=by rw [cl.s,s];rfl
   simp [I];exact dZ hc (show aU (anew (aD hs i))=true from oU G H)
  ·exact absurd (by rw [cl.s,s];rfl) h6
 | rS0 n hn k ce p z s =>
  simp only [aO,hok k,p];exact dZ hc (jV G H (by show (1:Int)≤12∧(12:Int)≤25;omega) rfl rfl ⟨B.cell,B.grow,B.seen,B.wait,B.mine,B.fin,C.sent,B.nxt,B.beg,B.reply,B.out⟩)
 | rS1 n hn k ce p z s =>
  simp only [aO,hok k,p];exact dZ hc (jV G H (by show (1:Int)≤12∧(12:Int)≤25;omega) rfl rfl ⟨B.cell,B.grow,B.seen,B.wait,B.mine,B.fin,C.sent,B.nxt,B.beg,B.reply,B.out⟩)
 | rT00 n hn k ce p z s f=>simp only [aO,hok k,p];exact qO C G H (.inl s)
 | rT01 n hn k ce p z s f=>simp only [aO,hok k,p];exact qO C G H (.inl s)
 | rT10 n hn k ce p z s f=>simp only [aO,hok k,p];exact qO C G H (.inr (.inl s))
 | rT11 n hn k ce p z s f=>simp only [aO,hok k,p];exact qO C G H (.inr (.inl s))
 | rT2 n hn k ce p z s o=>simp only [aO,hok k,p];exact qO C G H (.inr (.inr (.inl s)))
 | rT3 n hn k ce p z s o w =>
  simp only [aO,hok k,p];refine qO C G H (.inr (.inr (.inr ⟨s,?_⟩)));rw [w];exact ((q.word n hn).s ((q.way n hn).f_t3 z)).2.1
 | rw n hn k ce p z o w =>
  simp only [aO,hok k,p];refine dZ (iT.2 (C.tell _ _)) ?_;cases eG c (aD hs i).wait 1 with
  | true=>exact iA G H 14 tO
  | false=>exact iA G H 15 tO
 | rf n hn k ce p z o =>
  simp only [aO,hok k,p];exact dZ (iT.2 (C.state _ _ tO)) (wz G H _ tO)
 | rl n hn k ce p z =>
  simp only [aO,hok k,p];exact dZ (iT.2 (C.state _ _ tO)) (oU G H)
 | _=>omega
theorem Q.goG {c:Ch} {hs:List Ha} {g:Gh} {i:Nat} (q:Q c hs g) (K:i<hs.length) (hc:aN c=true) (G:aU (aD hs i)=true) (N:16≤(aD hs i).pos) (O:(aD hs i).pos≤22)
  (L:(aD hs i).pos=18→(cellAt c (aD hs i).grow).s≠5):(aW c (aD hs i)).2.2=true:=by
 have C:=iT.1 hc;have B:=(hb_iff.1 G).2;have H:(aD hs i).pos≠0:=tO;have hok:(aD hs i).code=2→bC c (aD hs i) 16 22 2=true:=fun M=>by
  have:dV (aD hs i).pos 16 22=true:=by simp only [dK];omega
  simp [bC,hc,G,this,M]
 cases q.hand i K with
 | g n k b p =>
  simp only [aW,hok k,p];simp only [BEq.rfl,if_true];unfold ib;split
  ·exact dZ hc (pI G H)
  ·rename_i I
   have:=C.fin;have:c.fin≠40:=by
    intro e;exact I (by simp [e])
   refine dZ (iT.2 ⟨C.cap,C.sent,C.got,?_,C.len,C.wlen,C.cells,C.words⟩) (jV G H (by show (1:Int)≤17∧(17:Int)≤25;omega) rfl rfl ⟨B.cell,?_,B.seen,B.wait,B.mine,B.fin,B.come,B.nxt,B.beg,B.reply,B.out⟩)
   ·show 0≤c.fin+1∧c.fin+1≤40;omega
   ·show 0≤c.fin∧c.fin≤39;omega
 | gF n m k b hm r p z =>
  simp only [aW,hok k,p];simp only [Int.reduceBEq,Bool.false_eq_true,BEq.rfl,if_true,if_false];split
  ·exact dZ hc (pI G H)
  ·exact dZ hc (iA G H 18 tO)
 | gX n m k b hm r p z =>
  have J:=L p;simp only [aW,hok k,p];simp only [Int.reduceBEq,Bool.false_eq_true,BEq.rfl,if_true,if_false];unfold ko;rw [if_neg yw];refine dZ hc ?_;have F:=C.at (aD hs i).grow;unfold lZ;dsimp only;split
  ·exact oV G H 19 tO C.wlen F
  ·split
   ·exact oV G H 19 tO C.wlen F
   ·split
    ·exact oV G H 16 tO C.wlen F
    ·exact pI (Jt G H F) H
 | gU0 n m k b hm r p z s =>
  simp only [aW,hok k,p];simp only [Int.reduceBEq,Bool.false_eq_true,BEq.rfl,if_true,if_false];unfold iw;rw [if_neg (by simp [s]),if_pos (by simp [s])];exact GD C G H (pI G H) _ _ tO tO
 | gU3 n m k b hm r p z s w =>
  simp only [aW,hok k,p];simp only [Int.reduceBEq,Bool.false_eq_true,BEq.rfl,if_true,if_false];unfold iw;rw [if_pos (by simp [s])];have:=B.wait;refine GD C G H (iA G H 20 tO) _ _ tO ⟨by omega,?_⟩;rw [w];exact ((q.word m hm).s ((q.way m hm).f_g29 z)).2.1
 | gR n m k b hm r p z w =>
  simp only [aW,hok k,p];refine dZ (iT.2 (C.tell _ _)) ?_;cases eG c (aD hs i).wait 1 with
  | true=>exact iA G H 21 tO
  | false=>exact iA G H 22 tO
 | gk n m k b hm r p z =>
  simp only [aW,hok k,p];exact dZ (iT.2 (C.state _ _ tO)) (pI G H)
 | gl n m k b hm r p z =>
  simp only [aW,hok k,p];exact dZ (iT.2 (C.state _ _ tO)) (iA G H 16 tO)
 | _=>omega
end
end Go.Proofs.YtffhjmepfojhnaaGreat
