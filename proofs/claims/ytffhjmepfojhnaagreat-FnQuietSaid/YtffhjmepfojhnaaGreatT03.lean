/-
  The reference model's telling of a word; lists lie in memory and hold at most 2 ^ 40 elements.
-/
import Derived.Test.YtffhjmepfojhnaaGreatT01
import Derived.Laws.Cover3
set_option maxRecDepth 100000
set_option maxHeartbeats 1000000
set_option linter.unusedSimpArgs false
set_option linter.unusedVariables false
namespace Go.Proofs.YtffhjmepfojhnaaGreat
open _root_.Go.Proofs.Tryz
section
open Go.RowKit
theorem CX {c:Ch} {v x:Int} (h:jR c v=false):eG c v x=false:=by simp [eG,h]
theorem wY {c:Ch} {v x:Int} (h:eG c v x=false):cZ c v x=c:=by simp [cZ,h]
theorem aI.open1 {w:World} {lo:Nat} {v:Value} {l:List Int} (h:aI w lo v l) {i:Nat} (H:i<l.length) :
  ∃ g cap,v=.slice (some ⟨g,0,none⟩) l.length cap∧lo≤g∧g<w.heap.size∧w.cell? ⟨g,i,none⟩=some (.int .i64 (l.getD i 0))∧∀ o,w.frozen? ⟨g,o,none⟩=false:=by
 have h2:=h;rcases h.2 with ⟨_,J⟩|⟨g,cap,G,rfl,I,F,_⟩
 ·omega
 ·refine ⟨g,cap,rfl,I,(Array.getElem?_eq_some_iff.1 F).1,?_,fun o=>by simp [World.frozen?,F]⟩
  have:=h2.cells (g:=g) rfl i (.int .i64 (l.getD i 0)) (by simp [ints,List.getD,H]);rw [← this];congr 1;by_cases e:i=0 <;> simp [Addr.add,e]
theorem aI.set {w:World} {lo g cap:Nat} {l:List Int} (h:aI w lo (.slice (some ⟨g,0,none⟩) l.length cap) l) {i:Nat} (F:i<l.length) (x:Int) :
  aI (w.setCell ⟨g,i,none⟩ (.int .i64 x)) lo (.slice (some ⟨g,0,none⟩) l.length cap) (l.set i x):=by
 have:=kJ h i (by rw [Fu];exact F) (.int .i64 x);unfold aI;rw [ints_set,List.length_set];exact this
theorem dN {w:World} {lo:Nat} {e:TypeId} {k n:Nat} {v:Value} {G:List Value} (h:w.ownsRow lo e k v n G) {b:Nat} (H:w.heap.size≤b):v.ownBlock≠some b:=fun F=>by have:=(h.lt b F).2;omega
theorem aF.ne {w:World} {lo lo':Nat} {v v':Value} {cs:List C3} {l:List Int} (h:aF w lo v cs) (h':aI w lo' v' l) (i:Nat) (H:v.ownBlock=some i):v'.ownBlock≠some i:=by
 intro F;rcases h.2 with ⟨rfl,_⟩|⟨g,cap,K,rfl,_,L,_⟩
 ·cases H
 rcases h'.2 with ⟨rfl,_⟩|⟨g',I,J,rfl,_,G,_⟩
 ·cases F
 simp [Value.ownBlock] at H F;subst H F;rw [L] at G;simp at G
theorem D9 {w:World} {lo lo':Nat} {v v':Value} {cs:List C3} {l:List Int} (h:aF w lo v cs) (h':aI w lo' v' l):v.ownBlock=none∨v.ownBlock≠v'.ownBlock:=by
 cases e:v.ownBlock with
 | none=>exact .inl rfl
 | some j=>exact .inr fun F=>aF.ne h h' j e F.symm
theorem Ag (c:Ch) (v x:Int) (a b:Option Addr) (p q:Nat) (w:World) (h1:gG w w a c.cells) (z1:a=none→p=0) (h2:gI w w b c.words) (z2:b=none→q=0) (m1:c.cells.length≤1099511627776) (m2:c.words.length≤1099511627776) :
  Calls prog 72 #[.agg #[c.cap,c.sent,c.got,c.fin,.slice a c.cells p,.slice b c.words q],.int .i64 v,.int .i64 x] w fun r w' =>
   (∃ v1 v2,r=.returned (.tuple #[.agg #[c.cap,c.sent,c.got,c.fin,v1,v2],.bool (eG c v x)])∧aF w' w v1 c.cells∧aI w' w v2 (cZ c v x).words)∧Below w w w':=by
 have H1:=aA h1;have H2:=aA h2;have Z1:=aA z1;have Z2:=aA z2;clear h1 h2 z1 z2;go_enter func72,ntmps72;go_wp2_with fail;refine aK w zB fun R=>?_;refine (vS c a b p q _ ((H1.out.below R).more R.size) Z1.out ((H2.out.below R).more R.size) Z2.out m1 m2).mono ?_;rintro _ O ⟨⟨v1,v2,rfl,o1,o2⟩,K⟩;have a6:Below w w O:=bT R K;have a8:=K.size;(try simp at a8);have V:=And.intro (fun o=>K.cell (p:=⟨w+1,o,none⟩) tS) <| And.intro (fun o=>K.frozen (p:=⟨w+1,o,none⟩) tS) <| And.intro (fun o=>K.cell (p:=⟨w,o,none⟩) tS) <| fun o=>K.frozen (p:=⟨w,o,none⟩) tS;(try simp [go_sem] at V);(try clear H I);(try clear N T);obtain ⟨H,I,N,T⟩:=V;(try clear G);have G:w+1<O.heap.size:=tO;(try clear M);have M:w<O.heap.size:=tO;clear K R
 try simp at o1 o2
 obtain ⟨a1,q1,rfl,_⟩:=o1.seg;by_cases hh:jR c v=true
 ·obtain ⟨g1,g2⟩:=tT.1 hh
  obtain ⟨i,rfl⟩:∃ i:Nat,v=(i:Int)+1:=⟨(v - 1).toNat,by omega⟩;have hi:i<c.words.length:=tO;obtain ⟨g,cap,rfl,ah,a7,Y,ac⟩:=o2.open1 hi;obtain ⟨R,bo,rfl,hb,L⟩:∃ b' o,b=some ⟨b',o,none⟩∧b'<w.heap.size∧w.cell? ⟨b',o+i,none⟩=some (.int .i64 (c.words.getD i 0)):=by
   rcases H2.out with h0|⟨b',o',e,h1,h2⟩
   ·omega
   ·exact ⟨b',o',e,h1,by simpa [lG] using h2 i 0 hi tO⟩
  have e:dH c ((i:Int)+1)=c.words.getD i 0:=by simp [dH]
  have HE:=aA e;clear e;generalize c.words.getD i 0=y at Y L HE;have af:(0:Int)≤(i:Int):=tO;have ag:(i:Int)<(c.words.length:Int):=tO;have a9:=(a6.cell (p:=⟨R,bo+i,none⟩) hb).trans L;go_wp2_with fail;refine aK w zB fun R=>?_;refine aK O zB fun bk=>?_;refine (xL c _ a _ p q _).mono ?_;rintro _ w2 ⟨rfl,F⟩;have a5:Below w w w2:=bT R F;have Z:=F.size;(try simp at Z);have V:=And.intro (fun o=>F.cell (p:=⟨O,o,none⟩) tS) <| And.intro (fun o=>F.frozen (p:=⟨O,o,none⟩) tS) <| And.intro (fun o=>F.cell (p:=⟨w+1,o,none⟩) tS) <| And.intro (fun o=>F.frozen (p:=⟨w+1,o,none⟩) tS) <| And.intro (fun o=>F.cell (p:=⟨w,o,none⟩) tS) <| fun o=>F.frozen (p:=⟨w,o,none⟩) tS;(first|simp [go_sem,H,I,N,T,M,G] at V|simp [go_sem,H,N,M,G] at V|simp [go_sem] at V|skip);(try clear a3 X);(try clear H I);(try clear N T);obtain ⟨a3,X,H,I,N,T⟩:=V;(try clear a0);have a0:O<w2.heap.size:=tO;(try clear G);have G:w+1<w2.heap.size:=tO;(try clear M);have M:w<w2.heap.size:=tO;have J:Below O O w2:=bT bk F;clear F R bk
  have p1:=own_below o1 J;have p2:=own_below o2 J;have aa:=(J.cell (p:=⟨g,i,none⟩) a7).trans Y;have ae:=fun o=>(J.frozen (p:=⟨g,o,none⟩) a7).trans (ac o)
  have ab:=(a5.cell (p:=⟨R,bo+i,none⟩) hb).trans L;have ai:O.heap.size≠g:=tO;by_cases ht:eG c ((i:Int)+1) x=true
  ·have a4:=ht
   unfold eG at a4;rw [HE.out] at a4;simp [hh] at a4;obtain ⟨rfl,ad⟩:=a4;have HW:Hid ((cZ c ((i:Int)+1) x).words=c.words.set i x):=by unfold cZ;rw [if_pos ht];simp [Hid]
   have HT:=aA ht;clear ht HE;go_wp2_with (go_at_call 121;refine (iP _ _ _ _).mono ?_;rintro _ _ ⟨rfl,rfl⟩);rw [HT.out,HW.out];refine bodyPost_ret (v:=.tuple #[.agg #[c.cap,c.sent,c.got,c.fin,.slice a1 c.cells q1,.slice (some ⟨g,0,none⟩) c.words cap],.bool true]) (by simp [results,results72,go_sem, *]) rfl ⟨⟨_,_,rfl,aL (lo:=w+1+1) ?_ tO,aL (lo:=w+1+1) ?_ tO⟩,zB⟩
   ·(repeat first|with_reducible exact p1|with_reducible refine xG ?_ _|with_reducible refine wM ?_|((with_reducible first|refine aV ?_ ?_ _|refine fC ?_ ?_);rotate_left;focus first|(refine own_ne o1 ?_;(try dsimp only);omega)|(refine dN o1 ?_;(try dsimp only);omega)|exact fun h=>aF.ne o1 o2 _ h rfl))
   ·have P2:=aI.set p2 hi x
    exact zO P2 o2
  ·have U:eG c ((i:Int)+1) x=false:=by simpa using ht
   have HT:=aA U;have HW:=aA (wY U);unfold eG at U;rw [HE.out] at U;simp [hh] at U;clear HE ht;by_cases hy:y=0
   ·subst hy
    have ad:=U rfl;clear U;exact Ux
   ·have aj:(y != 0)=true:=by simpa using hy
    clear U hy;exact Ux
 ·have U:=CX (x:=x) (by simpa using hh)
  have HT:=aA U;have HW:=aA (wY U);clear U;obtain ⟨a2,q2,rfl,_⟩:=o2.seg;go_wp2_with fail;refine aK w zB fun R=>?_;refine aK O zB fun bk=>?_;refine (xL c _ a b p q _).mono ?_;rintro _ w2 ⟨rfl,F⟩;have a5:Below w w w2:=bT R F;have Z:=F.size;(try simp at Z);have V:=And.intro (fun o=>F.cell (p:=⟨O,o,none⟩) tS) <| And.intro (fun o=>F.frozen (p:=⟨O,o,none⟩) tS) <| And.intro (fun o=>F.cell (p:=⟨w+1,o,none⟩) tS) <| And.intro (fun o=>F.frozen (p:=⟨w+1,o,none⟩) tS) <| And.intro (fun o=>F.cell (p:=⟨w,o,none⟩) tS) <| fun o=>F.frozen (p:=⟨w,o,none⟩) tS;(first|simp [go_sem,H,I,N,T,M,G] at V|simp [go_sem,H,N,M,G] at V|simp [go_sem] at V|skip);(try clear a3 X);(try clear H I);(try clear N T);obtain ⟨a3,X,H,I,N,T⟩:=V;(try clear a0);have a0:O<w2.heap.size:=tO;(try clear G);have G:w+1<w2.heap.size:=tO;(try clear M);have M:w<w2.heap.size:=tO;have J:Below O O w2:=bT bk F;clear F R bk
  have p1:=own_below o1 J;have p2:=own_below o2 J;go_wp2;rw [HT.out,HW.out];refine bodyPost_ret (v:=.tuple #[.agg #[c.cap,c.sent,c.got,c.fin,.slice a1 c.cells q1,.slice a2 c.words q2],.bool false]) (by simp [results,results72,go_sem, *]) rfl ⟨⟨_,_,rfl,aL (lo:=w+1+1) ?_ tO,aL (lo:=w+1+1) ?_ tO⟩,zB⟩
  ·exact zO p1 o1
  ·exact zO p2 o2
theorem jh (n m:Int) (w:World):Calls prog 45 #[.int .i64 n,.int .i64 m] w fun e w'=>e=.returned (.bool (dV n 0 m))∧w=w':=by
 go_enter func45,ntmps45
 go_wp2
 all_goals go_ret
 ·exact ⟨bQ (Ov ‹_›),rfl⟩
 ·exact ⟨bQ (zY (.inl ‹_›)).symm,rfl⟩
def Pe (n:Int) (e:Ending):Prop:=∃ s:ByteArray,e=.returned (.string s)∧s.toList.isEmpty=!(dV n 0 10)
theorem LM {n:Int} (s:ByteArray) (hs:s.data.size≠0) (h1:0≤n) (h2:n≤10):Pe n (.returned (.string s)):=⟨_,rfl,by
 obtain ⟨⟨l⟩⟩:=s;rw [lF h1 h2];cases l with
 | nil=>simp at hs
 | cons a l=>simp⟩
theorem Pf {n:Int} (h:n<0∨10<n):Pe n (.returned (.string ⟨#[]⟩)):=⟨_,rfl,by rw [zY h];simp⟩
theorem IG (n:Int) (w:World):Calls prog 195 #[.int .i64 n] w fun e w'=>Pe n e∧w=w':=by
 by_cases h:0≤n∧n≤10
 ·have G:n=0∨n=1∨n=2∨n=3∨n=4∨n=5∨n=6∨n=7∨n=8∨n=9∨n=10:=by omega
  clear h;rcases G with rfl|rfl|rfl|rfl|rfl|rfl|rfl|rfl|rfl|rfl|rfl
  all_goals
   go_enter func195,ntmps195
   go_wp2;go_ret;exact ⟨LM _ cB tO tO,rfl⟩
 ·have I:(n == 0)=false:=by simp;omega
  have h1:(n == 1)=false:=by simp;omega
  have h2:(n == 2)=false:=by simp;omega
  have h3:(n == 3)=false:=by simp;omega
  have J:(n == 4)=false:=by simp;omega
  have K:(n == 5)=false:=by simp;omega
  have h6:(n == 6)=false:=by simp;omega
  have L:(n == 7)=false:=by simp;omega
  have M:(n == 8)=false:=by simp;omega
  have N:(n == 9)=false:=by simp;omega
  have F:(n == 10)=false:=by simp;omega
  have H:=aA h;clear h;go_enter func195,ntmps195;go_wp2;go_ret;exact ⟨Pf (by have:=H.out;omega),rfl⟩
theorem vT (s e t:Int) (w:World):Calls prog 181 #[.agg #[.int .i64 s,.int .i64 e,.int .i64 t]] w fun r w'=>r=.returned (.bool (kN s e t))∧Below w w w':=by
 go_enter func181,ntmps181
 go_wp2_with (first|(go_at_call 195;refine (IG _ _).mono ?_;rintro F H ⟨⟨G,rfl,hs⟩,rfl⟩)|(go_at_call 45;refine (jh _ _ _).mono ?_;rintro _ _ ⟨rfl,rfl⟩))
 all_goals go_ret
 all_goals refine ⟨bQ ?_,zB⟩
 ·exact KG ‹_› ‹_›
 ·exact KF ‹_›
 ·exact KE ‹_›
def KJ (k:Int):Int:=if k == 1 then 999 else (if k == 2 then 0 else -1)
def RU (k r:Int):Bool:=if r == 1 then k == 1 else (if r == 2 then k == 2 else (if r == 3 || r == 4 then k == 1 || k == 2 else false))
theorem F8 (k e:Int):dV e 0 (KJ k)=eD k e:=by
 unfold KJ eD;by_cases h1:k=1
 ·subst h1;simp
 ·by_cases h2:k=2
  ·subst h2
   simp [dV];rw [Bool.eq_iff_iff];simp;omega
  ·have:(if k == 1 then (999:Int) else if k == 2 then 0 else -1)=-1:=by simp [h1,h2]
   rw [this,zY tO];simp [h1,h2]
theorem F9 (k e r:Int):(eD k e && RU k r)=jT k e r:=by
 unfold jT;by_cases hc:eD k e=true
 ·rw [hc]
  have F:k=1∨k=2:=by
   simp [eD] at hc;omega
  simp only [Bool.true_and];unfold RU;by_cases h1:r=1
  ·subst h1
   rcases F with rfl|rfl <;> decide
  ·by_cases h2:r=2
   ·subst h2
    rcases F with rfl|rfl <;> decide
   ·by_cases h3:r=3
    ·subst h3
     rcases F with rfl|rfl <;> decide
    ·by_cases G:r=4
     ·subst G
      rcases F with rfl|rfl <;> decide
     ·have:dV r 1 4=false:=zY tO
      simp [h1,h2,h3,G,this]
 ·simp [UZ hc]
theorem DC (k:Int) (w:World):Calls prog 184 #[.int .i64 k] w fun r w'=>r=.returned (.int .i64 (KJ k))∧w=w':=by
 go_enter func184,ntmps184
 go_wp2
 all_goals go_ret
 all_goals exact ⟨ry (by simp_all [KJ]),rfl⟩
theorem DF (k x:Int) (w:World):Calls prog 182 #[.int .i64 k,.int .i64 x] w fun r w'=>r=.returned (.bool (RU k x))∧w=w':=by
 go_enter func182,ntmps182
 go_wp2
 all_goals go_ret
 all_goals exact ⟨bQ (by simp_all [RU]),rfl⟩
theorem CY (k e:Int) (w:World):Calls prog 155 #[.agg #[.int .i64 k,.int .i64 e]] w fun r w'=>r=.returned (.agg #[.int .i64 k,.int .i64 e])∧Below w w w':=by
 go_enter func155,ntmps155
 go_wp2;exact bodyPost_ret (v:=.agg #[.int .i64 k,.int .i64 e]) (by simp [results,results155,go_sem, *]) rfl ⟨rfl,zB⟩
theorem yF (k e:Int) (w:World):Calls prog 156 #[.agg #[.int .i64 k,.int .i64 e]] w fun r w'=>r=.returned (.bool (eD k e))∧Below w w w':=by
 go_enter func156,ntmps156
 go_wp2_with fail
 go_region_with (first|(go_at_call 184;refine (DC _ _).mono ?_;rintro _ _ ⟨rfl,rfl⟩)|(go_at_call 45;refine (jh _ _ _).mono ?_;rintro _ _ ⟨rfl,rfl⟩))
 all_goals go_wp2
 all_goals go_ret
 all_goals exact ⟨bQ (F8 k e),zB⟩
theorem vU (k e:Int) (w:World):Calls prog 103 #[.agg #[.int .i64 k,.int .i64 e]] w fun r w'=>r=.returned (.bool (eD k e))∧Below w w w':=by
 go_enter func103,ntmps103
 go_wp2_with fail;refine (CY _ _ _).mono ?_;rintro _ J ⟨rfl,F⟩;have L:Below w w J:=bT zB F;have H:=F.size;(try (simp at H));have:=fun o=>F.cell (p:=⟨w,o,none⟩) fK;have:=fun o=>F.frozen (p:=⟨w,o,none⟩) fK;have:w<J.heap.size:=tO;have:w≤J.heap.size:=tO;have:w≤J.heap.size+1:=tO
 go_wp2_with fail;refine (yF _ _ _).mono ?_;rintro _ K ⟨rfl,G⟩;have M:Below w w K:=bT zB G;have I:=G.size;(try (simp at I));have:=fun o=>G.cell (p:=⟨w,o,none⟩) fK;have:=fun o=>G.frozen (p:=⟨w,o,none⟩) fK;have:w<K.heap.size:=tO;have:w≤K.heap.size:=tO;have:w≤K.heap.size+1:=tO
 go_wp2;go_ret;exact ⟨rfl,zB⟩
theorem FB (k e x:Int) (w:World):Calls prog 151 #[.agg #[.int .i64 k,.int .i64 e],.int .i64 x] w fun r w'=>r=.returned (.bool (jT k e x))∧Below w w w':=by
 go_enter func151,ntmps151
 go_wp2_with fail;refine (CY _ _ _).mono ?_;rintro _ H ⟨rfl,G⟩;have L:Below w w H:=bT zB G;have J:=G.size;(try (simp at J));have:=fun o=>G.cell (p:=⟨w,o,none⟩) fK;have:=fun o=>G.frozen (p:=⟨w,o,none⟩) fK;have:w<H.heap.size:=tO;have:w≤H.heap.size:=tO;have:w≤H.heap.size+1:=tO
 go_wp2_with fail;refine (yF _ _ _).mono ?_;rintro _ I ⟨rfl,F⟩;have M:Below w w I:=bT zB F;have K:=F.size;(try (simp at K));have:=fun o=>F.cell (p:=⟨w,o,none⟩) fK;have:=fun o=>F.frozen (p:=⟨w,o,none⟩) fK;have:=fun o=>F.cell (p:=⟨H,o,none⟩) fK;have:=fun o=>F.frozen (p:=⟨H,o,none⟩) fK;have:w<I.heap.size:=tO;have:w≤I.heap.size:=tO;have:w≤I.heap.size+1:=tO;have:H<I.heap.size:=tO;have:H≤I.heap.size:=tO;have:H≤I.heap.size+1:=tO
 go_wp2_with (go_at_call 182;refine (DF _ _ _).mono ?_;rintro _ _ ⟨rfl,rfl⟩)
 all_goals go_ret
 all_goals exact ⟨bQ (by rw [← F9];simp_all),zB⟩
theorem W9 (n:Nat) (G:n≤40) (g:Nat) (W:World):(Instr.sliceAt 142 (.pointer (some ⟨g,0,none⟩)) none (some (.int .i64 n)) (some (.int .i64 n))).run prog W=.ok (.slice (some ⟨g,0,none⟩) n n) W:=by
  have F:Tryz.prog.arrayLen 142=40:=by kernel_rfl
  rw [run_sliceAt_array_hm (P:=prog) W 142 ⟨g,0,none⟩ underlying142 .i64 .i64 n n tO tO tO];simp [go_sem,slicedAt]
theorem Pg (n:Nat) (G:n≤40) (g:Nat) (w:World):Calls prog 108 #[.pointer (some ⟨g,0,none⟩),.int .i64 n] w fun r w'=>r=.returned (.slice (some ⟨g,0,none⟩) n n)∧w=w':=by
  have F:=W9 n G g;go_enter func108,ntmps108;go_wp2;go_ret;exact ⟨rfl,rfl⟩
def rD (l:List Int):Bool:=decide (l.length≤80) && l.all (fun x=>dV x 0 2)
def p9 (n:Nat) (cs:List C3):Bool:=decide (cs.length=40) && cs.all (fw n)
def countB (c:Ch):Bool:=dV c.sent 0 40 && (dV c.got 0 40 && dV c.fin 0 40)
theorem rG (c:Ch):aN c=(dV c.cap 0 4 && (countB c && (rD c.words && p9 c.words c.cells))):=by
  unfold aN fH countB rD p9;cases dV c.cap 0 4 <;> cases dV c.sent 0 40 <;> cases dV c.got 0 40 <;> cases dV c.fin 0 40 <;> cases decide (c.cells.length=40) <;> cases decide (c.words.length≤80) <;> cases c.cells.all (fw c.words) <;> cases c.words.all (fun x=>dV x 0 2) <;> rfl
theorem Ah (c:Ch) (v1 v2:Value) (w:World) :
    Calls prog 148 #[.agg #[c.cap,c.sent,c.got,c.fin,v1,v2]] w fun r w'=>r=.returned (.bool (countB c))∧Below w w w':=by
  go_enter func148,ntmps148
  go_wp2_with (go_at_call 45;refine (jh _ _ _).mono ?_;rintro _ _ ⟨rfl,rfl⟩)
  all_goals go_ret
  all_goals exact ⟨bQ (by simp [countB, *]),zB⟩
theorem II {l:List Int} {k:Nat} {x:Int} (F:k<l.length) (hc:l.getD k 0=x) (h:dV x 0 2=false):false=rD l:=by
  have:l.all (fun x=>dV x 0 2)=false:=by
    rw [List.all_eq_false];refine ⟨l[k],List.getElem_mem F,?_⟩;rw [← hc] at h;simpa [List.getD,List.getElem?_eq_getElem F] using h
  simp [rD,this]
theorem IJ {l:List Int} (h:l.length≤80) (h2:(l.take l.length).all (fun x=>dV x 0 2)=true):true=rD l:=by
  rw [List.take_length] at h2;simp only [rD,h2,h,decide_true];rfl
theorem FC (l:List Int) (a:Option Addr) (p:Nat) (w:World) (h:gI w w a l) (R:l.length≤maxLen) :
    Calls prog 149 #[.slice a l.length p] w fun r w'=>r=.returned (.bool (rD l))∧Below w w w':=by
  unfold maxLen at R;by_cases I:80<l.length
  · have N:Hid (false=rD l):=by simp [rD,Hid];omega
    go_enter func149,ntmps149
    go_wp2;go_ret;exact ⟨bQ N.out,Below.refl _ _⟩
  · have U:decide (80<(l.length:Int))=false:=by simp;omega
    have K:l.length≤80:=tO;clear I;have M:=aA h;clear h;go_enter func149,ntmps149;go_wp2;go_loopw [10] (fun i wr=>∃ k:Nat,k≤l.length∧i=.int .i64 k∧Hid ((l.take k).all (fun x=>dV x 0 2)=true)∧Below w w wr) (fun i _=>l.length - (intOf i).toNat)
    case atStart=>exact ⟨0,Nat.zero_le _,rfl,rfl,Below.refl _ _⟩
    case round =>
      obtain ⟨k,V,rfl,F,J⟩:=hrel;by_cases G:k<l.length
      · obtain T|⟨b,o,rfl,O,hc⟩:=M.out
        · omega
        have c0:=(J.cell (p:=⟨b,o+k*1+0,none⟩) O).trans (hc k 0 G tO);simp only [lG,Nat.add_zero,Nat.mul_one] at c0;clear hc;generalize H:l.getD k 0=x at c0;have L:=aA H;clear H;go_wp2_with (go_at_call 45;refine (jh _ _ _).mono ?_;rintro _ _ ⟨rfl,rfl⟩)
        · go_ret
          exact ⟨bQ (II G L.out (not_true ‹_›)),J⟩
        · go_roundw
          case rel=>exact ⟨k+1,by omega,by go_num,zZ G L.out F.out (not_false ‹_›),J⟩
          case measure=>simp [intOf];omega
      · have:k=l.length:=by omega
        subst this;go_wp2;go_ret;exact ⟨bQ (IJ K F.out),J⟩
theorem IK {n:Nat} {cs:List C3} {k:Nat} {c:C3} (F:k<cs.length) (hc:cs.getD k ⟨0,0,0⟩=c) (h:fw n c=false):false=p9 n cs:=by
  have:cs.all (fw n)=false:=by
    rw [List.all_eq_false];refine ⟨cs[k],List.getElem_mem F,?_⟩;rw [← hc] at h;simpa [List.getD,List.getElem?_eq_getElem F] using h
  simp [p9,this]
theorem IL {n:Nat} {cs:List C3} (h:cs.length=40) (h2:(cs.take cs.length).all (fw n)=true):true=p9 n cs:=by
  rw [List.take_length] at h2;simp only [p9,h2,h,decide_true];rfl
theorem FD {n:Nat} {cs:List C3} {k:Nat} {c:C3} (F:k<cs.length) (hc:cs.getD k ⟨0,0,0⟩=c) (h:(cs.take k).all (fw n)=true) (h1:fw n c=true):(cs.take (k+1)).all (fw n)=true:=by
  rw [rz cs k F,hc,List.all_append,h];simp [h1]
theorem FH (n:Nat) (cs:List C3) (a:Option Addr) (p:Nat) (w:World) (h:gG w w a cs) (hm:cs.length≤maxLen) :
    Calls prog 150 #[.slice a cs.length p,.int .i64 n] w fun r w'=>r=.returned (.bool (p9 n cs))∧Below w w w':=by
  unfold maxLen at hm;by_cases G:cs.length=40
  · have Y:((cs.length:Int) != 40)=false:=by simp;omega
    have Z:cs.length≤40:=tO;have U:=aA G;clear G;have V:=aA h;clear h;go_enter func150,ntmps150;go_wp2;go_loopw [12] (fun i wr=>∃ k:Nat,k≤cs.length∧i=.int .i64 k∧Hid ((cs.take k).all (fw n)=true)∧Below w w wr) (fun i _=>cs.length - (intOf i).toNat)
    case atStart=>exact ⟨0,Nat.zero_le _,rfl,rfl,Below.refl _ _⟩
    case round =>
      obtain ⟨k,hk,rfl,I,J⟩:=hrel;have hs:=J.size;by_cases H:k<cs.length
      · obtain h0|⟨b,o,rfl,N,hc⟩:=V.out
        · omega
        have c0:=(J.cell (p:=⟨b,o+k*3+0,none⟩) N).trans (hc k 0 H tO);have R:=(J.cell (p:=⟨b,o+k*3+1,none⟩) N).trans (hc k 1 H tO);have c2:=(J.cell (p:=⟨b,o+k*3+2,none⟩) N).trans (hc k 2 H tO);simp only [jy,C3.val,Nat.add_zero] at c0 R c2;clear hc;generalize K:cs.getD k ⟨0,0,0⟩=c at c0 R c2;have O:=aA K;clear K;go_wp2_with (go_at_call 181;refine (vT _ _ _ _).mono ?_;rintro _ M ⟨rfl,F⟩;have T:Below w w M:=bT zB F;have L:=F.size;(try (simp at L));have:=fun o=>F.cell (p:=⟨wr,o,none⟩) fK;have:=fun o=>F.frozen (p:=⟨wr,o,none⟩) fK;have:wr<M.heap.size:=tO;have:wr≤M.heap.size:=tO;have:wr≤M.heap.size+1:=tO)
        all_goals first
          | (go_ret;exact ⟨bQ (IK H O.out (by simp_all [fw,U9])),zB⟩)
          | (go_roundw
             case rel=>exact ⟨k+1,by omega,by go_num,FD H O.out I.out (by simp_all [fw,U9]),zB⟩
             case measure=>simp [intOf];omega)
      · have:k=cs.length:=by omega
        subst this;go_wp2;go_ret;exact ⟨bQ (IL U.out I.out),J⟩
  · have Y:((cs.length:Int) != 40)=true:=by simp;omega
    have X:Hid (false=p9 n cs):=by simp [p9,Hid,G]
    clear G;go_enter func150,ntmps150;go_wp2;go_ret;exact ⟨bQ X.out,Below.refl _ _⟩
theorem iY (c:Ch) (a b:Option Addr) (p q:Nat) (w:World) (h1:gG w w a c.cells) (h2:gI w w b c.words) (L:c.cells.length≤maxLen) (M:c.words.length≤maxLen) :
    Calls prog 98 #[.agg #[c.cap,c.sent,c.got,c.fin,.slice a c.cells p,.slice b c.words q]] w fun r w'=>r=.returned (.bool (aN c))∧Below w w w':=by
  rw [rG];have N:=aA h1;have O:=aA h2;have R:=aA L;have T:=aA M;clear h1 h2 L M;go_enter func98,ntmps98;go_wp2_with (first|(go_at_call 45;refine (jh _ _ _).mono ?_;rintro _ _ ⟨rfl,rfl⟩)|(go_at_call 148;refine (Ah c _ _ _).mono ?_;rintro _ I ⟨rfl,F⟩;have K:Below w w I:=bT zB F;have H:=F.size;(try (simp at H));have:=fun o=>F.cell (p:=⟨w,o,none⟩) fK;have:=fun o=>F.frozen (p:=⟨w,o,none⟩) fK;have:w<I.heap.size:=tO;have:w≤I.heap.size:=tO;have:w≤I.heap.size+1:=tO)|(go_at_call 149;refine (FC c.words b q _ ((O.out.below zB).more (by (try simp);omega)) T.out).mono ?_;rintro _ Y ⟨rfl,G⟩;have U:Below w w Y:=bT zB G;have X:=G.size;have:=fun o=>G.cell (p:=⟨w,o,none⟩) (by (try simp);omega))|(go_at_call 150;refine (FH c.words c.cells a p _ ((N.out.below zB).more (by (try simp);omega)) R.out).mono ?_;rintro _ Z ⟨rfl,J⟩;have V:Below w w Z:=bT zB J))
  all_goals go_ret
  all_goals exact ⟨bQ (by simp [*]),zB⟩
theorem oL (c:Ch) (v:Int) (b:Option Addr) (q:Nat) (w:World) :
  Calls prog 168 #[.slice b c.words q,.int .i64 v] w fun r w'=>r=.returned (.bool (jR c v))∧Below w w w':=by
 go_enter func168,ntmps168
 go_wp2
 all_goals go_ret
 all_goals exact ⟨bQ (by simp [jR,dV, *] <;> omega),zB⟩
theorem IM (c:Ch) (v:Int) (a b:Option Addr) (p q:Nat) (w:World) (h1:gG w w a c.cells) (h2:gI w w b c.words) (Y:c.cells.length≤maxLen) (U:c.words.length≤maxLen) :
  Calls prog 280 #[.agg #[c.cap,c.sent,c.got,c.fin,.slice a c.cells p,.slice b c.words q],.int .i64 v] w fun r w'=>r=.returned (.int .i64 (jA c v))∧Below w w w':=by
 have V:=aA h1;have O:=aA h2;have m3:=U;unfold maxLen at m3;clear h1 h2;by_cases hc:aN c=true
 ·by_cases X:jR c v=true
  ·obtain ⟨v1,v2⟩:=tT.1 X
   obtain ⟨i,rfl⟩:∃ i:Nat,v=(i:Int)+1:=⟨(v - 1).toNat,by omega⟩;have hi:i<c.words.length:=tO;obtain ⟨bb,bo,rfl,hb,G⟩:∃ L o,b=some ⟨L,o,none⟩∧L<w.heap.size∧w.cell? ⟨L,o+i,none⟩=some (.int .i64 (c.words.getD i 0)):=by
    rcases O.out with h0|⟨L,o',e,h1,h2⟩
    ·omega
    ·exact ⟨L,o',e,h1,by simpa [lG] using h2 i 0 hi tO⟩
   have K:=aA (IA hc X);have e:dH c ((i:Int)+1)=c.words.getD i 0:=by simp [dH]
   have HE:=aA e;clear e;generalize c.words.getD i 0=x at G HE;have a0:(0:Int)≤(i:Int):=tO;have a1:(i:Int)<(c.words.length:Int):=tO;go_enter func280,ntmps280;go_wp2_with fail;refine (iY c a _ p q _ (((V.out).below zB).more cK) (((O.out).below zB).more cK) Y U).mono ?_;rintro _ N ⟨rfl,F⟩;have I:Below w w N:=bT zB F;have J:=F.size;simp at J;have:=fun o=>F.cell (p:=⟨w,o,none⟩) cK
   have R:=(I.cell (p:=⟨bb,bo+i,none⟩) hb).trans G;go_wp2_with fail;refine (oL c _ _ q _).mono ?_;rintro _ Z ⟨rfl,H⟩;have M:Below w w Z:=bT zB H;have:=fun o=>H.cell (p:=⟨w,o,none⟩) dQ
   have T:=(M.cell (p:=⟨bb,bo+i,none⟩) hb).trans G;go_wp2;go_ret;exact ⟨ry (by rw [← K.out,HE.out]),zB⟩
  ·have K:=aA (CW (c:=c) (v:=v) (by simp [X]))
   go_enter func280,ntmps280
   go_wp2_with fail;refine (iY c a b p q _ (((V.out).below zB).more cK) (((O.out).below zB).more cK) Y U).mono ?_
   rintro _ N ⟨rfl,F⟩;have I:Below w w N:=bT zB F;have J:=F.size;simp at J;have:=fun o=>F.cell (p:=⟨w,o,none⟩) cK
   go_wp2_with fail;refine (oL c _ b q _).mono ?_
   rintro _ Z ⟨rfl,H⟩;have M:Below w w Z:=bT zB H;go_wp2;go_ret;exact ⟨ry K.out,zB⟩
 ·have K:=aA (CW (c:=c) (v:=v) (by simp [hc]))
  go_enter func280,ntmps280
  go_wp2_with fail;refine (iY c a b p q _ (((V.out).below zB).more cK) (((O.out).below zB).more cK) Y U).mono ?_
  rintro _ N ⟨rfl,F⟩;have I:Below w w N:=bT zB F;go_wp2;go_ret;exact ⟨ry K.out,zB⟩
theorem Pj (t e:TypeId) (a:Option Addr) (l c:Nat) (h:Tryz.prog.underlying t=some (.slice e)) (w:World):(binOp .eql t (.slice a l c) (.slice none 0 0)).run prog w=.ok (.bool a.isNone) w:=by
 simp only [binOp];simp [run_equal_slice_nil w t e a l c h]
theorem IP (l:List Int) (b:Option Addr) (q:Nat) (w:World) (h:gI w w b l) (G:b=none→q=0) (K:l.length≤1099511627776) :
  Calls prog 153 #[.slice b l.length q] w fun r w'=>(∃ v,r=.returned v∧aI w' w v l)∧Below w w w':=by
 obtain ⟨i0,hi0,hz0,hz1,hz2⟩:=info_parts pR;have F:=Pj _ _ b l.length q underlying29;rcases b with _|⟨bb,bo,sp⟩
 ·obtain rfl:=G rfl
  have I:l.length=0:=by rcases h with h|⟨_,_,h,_⟩;exact h;cases h
  obtain rfl:l=[]:=List.eq_nil_of_length_eq_zero I;simp at F;go_enter func153,ntmps153;go_wp2;go_ret;exact ⟨⟨_,rfl,World.ownsRow_nil _ _ _ _⟩,zB⟩
 ·have HN:Hid (∀ j u,(ints l)[j]?=some u→w.cell? ((⟨bb,bo,sp⟩:Addr).add j)=some u):=by
   rcases h with H|⟨J,L,e,h1,h2⟩
   ·obtain rfl:l=[]:=List.eq_nil_of_length_eq_zero H
    intro j u hu;simp [ints] at hu
   ·simp at e
    obtain ⟨rfl,rfl,rfl⟩:=e;exact Seg.newsI (.inr ⟨bb,bo,rfl,h1,h2⟩)
  clear h G;simp at F;go_enter func153,ntmps153;exact Uw
theorem IQ (l:List C3) (b:Option Addr) (q:Nat) (w:World) (h:gG w w b l) (O:b=none→q=0) (Z:l.length≤1099511627776) :
  Calls prog 152 #[.slice b l.length q] w fun r w'=>(∃ v,r=.returned v∧aF w' w v l)∧Below w w w':=by
 obtain ⟨X,I,K,L,M⟩:=info_parts CV;have N:=Pj _ _ b l.length q underlying28;rcases b with _|⟨G,H,sp⟩
 ·obtain rfl:=O rfl
  have V:l.length=0:=by rcases h with h|⟨_,_,h,_⟩;exact h;cases h
  obtain rfl:l=[]:=List.eq_nil_of_length_eq_zero V;simp at N;go_enter func152,ntmps152;go_wp2;go_ret;exact ⟨⟨_,rfl,World.ownsRow_nil _ _ _ _⟩,zB⟩
 ·have R:Hid (∀ j u,(mE l)[j]?=some u→w.cell? ((⟨G,H,sp⟩:Addr).add j)=some u):=by
   rcases h with T|⟨Y,o',e,h1,h2⟩
   ·obtain rfl:l=[]:=List.eq_nil_of_length_eq_zero T
    intro j u J;simp [mE] at J
   ·simp at e
    obtain ⟨rfl,rfl,rfl⟩:=e;exact Seg.newsC (.inr ⟨G,H,rfl,h1,h2⟩)
  clear h O;simp at N;go_enter func152,ntmps152;go_wp2_with (at_builtin;refine wpList_append_own _ rfl _ _ 28 rfl w.heap.size 93 X _ 3 24 underlying28 I K L M rfl cB _ 0 [] rfl (tK _ _ _ _ (Nat.le_refl _)) ⟨G,H,sp⟩ l.length q (mE l) rfl (lH l) ?c0 (CR l) ?c3 ?c4 ?c5 ?_)
  case c0=>exact fun j u J=>kQ (R.out j u J)
  case c3=>unfold maxLen;omega
  case c4=>omega
  case c5=>simp
  intro v w1 F U _;go_wp2;go_ret;exact ⟨⟨_,rfl,by simpa using F⟩,mO zB U cK (by simp [Value.ownBlock])⟩
theorem rH (c:Ch) (a b:Option Addr) (p q:Nat) (w:World) (h1:gG w w a c.cells) (z1:a=none→p=0) (h2:gI w w b c.words) (V:b=none→q=0) (m1:c.cells.length≤1099511627776) (m2:c.words.length≤1099511627776) :
  Calls prog 101 #[.agg #[c.cap,c.sent,c.got,c.fin,.slice a c.cells p,.slice b c.words q]] w fun r w' =>
   (∃ v1 v2,r=.returned (.agg #[c.cap,c.sent,c.got,c.fin,v1,v2])∧aF w' w v1 c.cells∧aI w' w v2 c.words)∧Below w w w':=by
 obtain ⟨cap,sent,got,fin,cells,words⟩:=c;simp only at *;have X:=aA h1;have Z:=aA z1;have Y:=aA h2;have Z2:=aA V;clear h1 h2 z1 V;go_enter func101,ntmps101;go_wp2_with fail;refine (IQ cells a p _ ((X.out.below zB).more qw) Z.out m1).mono ?_;rintro _ M ⟨⟨v1,rfl,K⟩,G⟩;have I:=G.size;simp at I;have:=fun o=>G.cell (p:=⟨w,o,none⟩) dQ
 have:=fun o=>G.frozen (p:=⟨w,o,none⟩) dQ
 have:=fun o=>G.cell (p:=⟨w+1,o,none⟩) cK
 have:=fun o=>G.frozen (p:=⟨w+1,o,none⟩) cK
 have H:Below w w M:=bT zB G;have k0:w<M.heap.size:=tO;have k1:w+1<M.heap.size:=tO;have WM:=aL K (lo':=w+1+1) cK;obtain ⟨T,U,rfl,_⟩:=aF.seg K;clear K G;go_wp2_with fail;refine (IP words b q _ ((Y.out.below H).setOther sj cK) Z2.out m2).mono ?_;rintro _ N ⟨⟨v2,rfl,L⟩,F⟩;have O:=own_below (aV WM (p:=⟨w,4,none⟩) (own_ne WM yt) (.slice T cells.length U)) F;have R:=aL L (lo':=w+1+1) sj;obtain ⟨vb,vd,rfl,_⟩:=aI.seg L
 clear L;have J:=F.size;simp [World.setCell] at J;have a0:Below w w N:=bT zB F;have:=fun o=>F.cell (p:=⟨w,o,none⟩) sj
 have:=fun o=>F.frozen (p:=⟨w,o,none⟩) sj
 have:=fun o=>F.cell (p:=⟨w+1,o,none⟩) sj
 have:=fun o=>F.frozen (p:=⟨w+1,o,none⟩) sj
 clear F;have:w<N.heap.size:=by omega
 have:w+1<N.heap.size:=by omega
 go_wp2_with fail;refine bodyPost_ret (v:=.agg #[.int .i64 cap,.int .i64 sent,.int .i64 got,.int .i64 fin,.slice T cells.length U,.slice vb words.length vd]) (by simp [results,results101,go_sem, *]) rfl ⟨⟨_,_,rfl,?_,?_⟩,?_⟩
 ·refine aL (lo:=w+1+1) ?_ tO
  repeat (first|with_reducible exact O|((with_reducible refine aV ?_ ?_ _);rotate_left;(focus exact own_ne O yt)))
 ·refine aL (lo:=w+1+1) ?_ tO
  repeat (first|with_reducible exact R|((with_reducible refine aV ?_ ?_ _);rotate_left;(focus exact own_ne R yt)))
 ·exact zB
theorem tV {w w':World} {row:Option Nat} (h:Below w w w'):w.grownBy w' row:=⟨h.os,h.tape,h.output,h.size,fun i F _=>h.block i F⟩
theorem Vb {w w':World} {g:Nat} (h:Below w w w') (o:Nat) (u:Value):w.grownBy (w'.setCell ⟨g,o,none⟩ u) (some g) :=
 ⟨h.os,h.tape,h.output,by simp [World.setCell];exact h.size,fun i F G=>by rw [Below.heap_setCell w' ⟨g,o,none⟩ u i (fun e=>G (by rw [e]))];exact h.block i F⟩
theorem FI (c:Ch) (v x:Int) (U V:Nat) (v2:Value) (lo:Nat) (w:World) (h:aI w lo v2 c.words) (c1:w.cell? ⟨U,0,none⟩=some v2) (c2:w.cell? ⟨V,0,none⟩=some (.int .i64 v)) (hm:c.words.length≤1099511627776) :
  Calls prog 167 #[.int .i64 x,.pointer (some ⟨U,0,none⟩),.pointer (some ⟨V,0,none⟩)] w fun r w'=>r=.returned (.bool (eG c v x))∧aI w' lo v2 (cZ c v x).words∧w.grownBy w' v2.ownBlock:=by
 have l1:=World.block_lt_of_cell? w _ c1;have l2:=World.block_lt_of_cell? w _ c2;simp only at l1 l2;by_cases R:jR c v=true
 ·obtain ⟨a1,a2⟩:=tT.1 R
  obtain ⟨i,rfl⟩:∃ i:Nat,v=(i:Int)+1:=⟨(v - 1).toNat,by omega⟩;have hi:i<c.words.length:=tO;obtain ⟨g,cap,rfl,a4,N,I,X⟩:=h.open1 hi;have e:dH c ((i:Int)+1)=c.words.getD i 0:=by simp [dH]
  have M:=aA e;have T:=aA h;clear e h;generalize c.words.getD i 0=y at I M;have a0:(0:Int)≤(i:Int):=tO;have a3:(i:Int)<(c.words.length:Int):=tO;go_enter func167,ntmps167;go_wp2_with fail;refine (oL c _ _ cap _).mono ?_;rintro _ w1 ⟨rfl,F⟩;have d1:=(F.cell (p:=⟨U,0,none⟩) l1).trans c1;have d2:=(F.cell (p:=⟨V,0,none⟩) l2).trans c2;have d3:=(F.cell (p:=⟨g,i,none⟩) N).trans I;have d4:=fun o=>(F.frozen (p:=⟨g,o,none⟩) N).trans (X o)
  have O:=own_below T.out F;by_cases ht:eG c ((i:Int)+1) x=true
  ·have J:=ht
   unfold eG at J;rw [M.out] at J;simp [R] at J;obtain ⟨rfl,G⟩:=J;have L:Hid ((cZ c ((i:Int)+1) x).words=c.words.set i x):=by unfold cZ;rw [if_pos ht];simp [Hid]
   have K:=aA ht;have hx:x=1∨x=2:=by simp [dV] at G;omega
   have Y:(x != 1 && x != 2)=false:=by rcases hx with rfl|rfl <;> rfl
   clear ht M G;rcases hx with rfl|rfl
   all_goals go_wp2
   all_goals go_ret
   all_goals exact ⟨bQ (by rw [K.out]),by rw [L.out];exact aI.set O hi _,Vb F _ _⟩
  ·have H:eG c ((i:Int)+1) x=false:=by simpa using ht
   have K:=aA H;have L:=aA (wY H);unfold eG at H;rw [M.out] at H;simp [R] at H;clear M ht;by_cases Z:y=0
   ·subst Z
    have G:=H rfl;have a5:(x != 1)=true:=by simp [dV] at G;simp;omega
    have Y:(x != 2)=true:=by simp [dV] at G;simp;omega
    clear H G;go_wp2;go_ret;exact ⟨bQ (by rw [K.out]),by rw [L.out];exact O,tV F⟩
   ·have a6:(y != 0)=true:=by simpa using Z
    clear H Z;go_wp2;go_ret;exact ⟨bQ (by rw [K.out]),by rw [L.out];exact O,tV F⟩
 ·have H:=CX (x:=x) (by simpa using R)
  have K:=aA H;have L:=aA (wY H);clear H;have T:=aA h;obtain ⟨a2,q2,rfl,_⟩:=h.seg;clear h;go_enter func167,ntmps167;go_wp2_with fail;refine (oL c _ _ q2 _).mono ?_;rintro _ w1 ⟨rfl,F⟩;have O:=own_below T.out F;go_wp2;go_ret;exact ⟨bQ (by rw [K.out]),by rw [L.out];exact O,tV F⟩
def told (c:Ch) (v x:Int):Ch:=if aN c then cZ c v x else Ch.zero
def FJ (c:Ch) (v x:Int):Bool:=aN c && eG c v x
def sM (c:Ch):Ch:=if aN c then (if 80≤c.words.length then c else { c with words:=c.words ++ [0] }) else Ch.zero
def Ai (c:Ch):Int:=if aN c then (if 80≤c.words.length then 0 else c.words.length+1) else 0
theorem RV {c:Ch} {v x:Int} (h:aN c=false):told c v x=Ch.zero∧FJ c v x=false:=by simp [told,FJ,h]
theorem FK {c:Ch} {v x:Int} (h:aN c=true):told c v x=cZ c v x∧FJ c v x=eG c v x:=by simp [told,FJ,h]
theorem pU (c:Ch) (v x:Int):(cZ c v x).cells=c.cells∧(cZ c v x).cap=c.cap∧(cZ c v x).sent=c.sent∧(cZ c v x).got=c.got∧(cZ c v x).fin=c.fin:=by unfold cZ;split <;> simp
end
end Go.Proofs.YtffhjmepfojhnaaGreat
