/-
  The reference model's small functions of chapter 6, on hands and channels that are kept whole; lists lie in memory.
-/
import Derived.Test.YtffhjmepfojhnaaGreatT05
import Derived.Test.YtffhjmepfojhnaaGreatT02
import Derived.Test.YtffhjmepfojhnaaGreatT03
import Derived.BigRegion
import Derived.Test.YtffhjmepfojhnaaGreatT01
import Derived.Deep.AppendLies
set_option maxRecDepth 100000
set_option maxHeartbeats 1000000
set_option linter.unusedSimpArgs false
set_option linter.unusedVariables false
namespace Go.Proofs.YtffhjmepfojhnaaGreat
open _root_.Go.Proofs.Tryz
section
open Go.RowKit
attribute [local simp] dz
attribute [local go_sem ↓] dA fU dO gW dP gY dW fE bK eO
theorem tJ (c:Ch) (a b:Option Addr) (p q:Nat) (w:World) (h1:gG w w a c.cells) (h2:gI w w b c.words) :
  Calls prog 112 #[.agg (aH c (.slice a c.cells p) (.slice b c.words q))] w fun r w'=>r=.returned (.bool (aN c))∧Below w w w':=nW c a b p q w h1 h2
theorem eT (c:Ch) (a b:Option Addr) (p q:Nat) (w:World) (h1:gG w w a c.cells) (z1:a=none→p=0) (h2:gI w w b c.words) (H:b=none→q=0) (F:c.cells.length≤1099511627776) (G:c.words.length≤1099511627776) :
  Calls prog 123 #[.agg (aH c (.slice a c.cells p) (.slice b c.words q))] w fun r w'=>(∃ v1 v2,r=.returned (.agg (aH c v1 v2))∧aF w' w v1 c.cells∧aI w' w v2 c.words)∧Below w w w':=vS c a b p q w h1 z1 h2 H F G
theorem uU (c:Ch) (v x:Int) (a b:Option Addr) (p q:Nat) (w:World) (h1:gG w w a c.cells) (z1:a=none→p=0) (h2:gI w w b c.words) (H:b=none→q=0) (F:c.cells.length≤1099511627776) (G:c.words.length≤1099511627776) :
  Calls prog 72 #[.agg (aH c (.slice a c.cells p) (.slice b c.words q)),.int .i64 v,.int .i64 x] w fun r w' =>
   (∃ v1 v2,r=.returned (.tuple #[.agg (aH c v1 v2),.bool (eG c v x)])∧aF w' w v1 c.cells∧aI w' w v2 (cZ c v x).words)∧Below w w w':=Ag c v x a b p q w h1 z1 h2 H F G
theorem eQ (c:Ch) (h:Ha) (f t k:Int) (a b:Option Addr) (p q:Nat) (w:World) (h1:gG w w a c.cells) (h2:gI w w b c.words) :
  Calls prog 196 #[.agg (aH c (.slice a c.cells p) (.slice b c.words q)),.agg (aB h),.int .i64 f,.int .i64 t,.int .i64 k] w fun r w'=>r=.returned (.bool (bC c h f t k))∧Below w w w':=by
 have O:=aA h1;have R:=aA h2;clear h1 h2;go_enter func196,ntmps196;go_wp2_with (first|(go_at_call 112;refine aK w zB fun I=>?_;refine (tJ c a b p q _ (aT O I) (aT R I)).mono ?_;rintro _ T ⟨rfl,F⟩;obtain ⟨M,J,H⟩:=I9 I F (b:=w);(try simp at J);(try simp [go_sem] at H);replace L:=zX H;clear H F I)|(go_at_call 119;refine aK w zB fun I=>?_;refine (jI _ _).mono ?_;rintro _ U ⟨rfl,G⟩;obtain ⟨N,K,H⟩:=I9 I G (b:=w);(try simp at K);(first|simp [go_sem,L] at H|simp [go_sem] at H|skip);replace L:=zX H;clear H G I)|(go_at_call 121;refine (iP _ _ _ _).mono ?_;rintro _ _ ⟨rfl,rfl⟩))
 all_goals go_ret
 all_goals exact ⟨bQ (by simp_all [bC]),zB⟩
theorem Pt {c:Ch} {h:Ha} (h1:aN c=true) (h2:aU h=true):done c h=(c,h,true):=by simp [done,h1,h2]
theorem Pv {c:Ch} {h:Ha} (h1:aN c=false):done c h=nothing:=by simp [done,h1]
theorem Pw {c:Ch} {h:Ha} (h1:aU h=false):done c h=nothing:=by simp [done,h1]
def ic (w:World) (v v':Value):Prop:=∀ j,v'.ownBlock=some j→v.ownBlock=some j∨w.heap.size≤j
theorem aP (w:World) (v:Value):ic w v v:=fun _ h=>.inl h
theorem Df (w:World) (v:Value) (n c:Nat):ic w v (.slice none n c):=fun _ h=>by cases h
theorem ic.off {w F:World} {v v':Value} (h:ic w v v') (G:∀ j,v.ownBlock=some j→j<F.heap.size) {b:Nat} (h1:F.heap.size≤b) (h2:b<w.heap.size):v'.ownBlock≠some b:=fun e=>by
 rcases h b e with h|h
 ·have:=G b h;omega
 ·omega
def Ap (w w':World) (lo:Nat) (v1 v2:Value) (x:St) (r:Ending):Prop:=∃ y1 y2,r=.returned (.tuple #[.agg (aH x.1 y1 y2),.agg (aB x.2.1),.bool x.2.2])∧aF w' lo y1 x.1.cells∧aI w' lo y2 x.1.words∧ic w v1 y1∧ic w v2 y2
theorem sO {w J G:World} {v v' u I:Value} (F:Nat) (K:ic J v v') (L:ic G u I) (M:∀ j,v.ownBlock=some j→j<w.heap.size) (N:∀ j,u.ownBlock=some j→j<w.heap.size) (h:F≤J.heap.size:=by (try simp) <;> omega) (h2:F≤G.heap.size:=by (try simp) <;> omega) (g:w≤J.heap.size:=by (try simp) <;> omega) (O:w≤G.heap.size:=by (try simp) <;> omega):((∀ j,w.heap.size≤j→j<F→v'.ownBlock≠some j)∧(∀ j,w.heap.size≤j→j<F→I.ownBlock≠some j))∧ic w v v'∧ic w u I :=
 ⟨⟨fun _ h1 k=>K.off M h1 (Nat.lt_of_lt_of_le k h),fun _ h1 k=>L.off N h1 (Nat.lt_of_lt_of_le k h2)⟩,fun j H=>(K j H).imp id (Nat.le_trans g),fun j H=>(L j H).imp id (Nat.le_trans O)⟩
theorem ru (w w':World) (lo:Nat) (v1 v2:Value):Ap w w' lo v1 v2 nothing (.returned (.tuple #[.agg (aH Ch.zero (.slice none 0 0) (.slice none 0 0)),.agg (aB Ha.zero),.bool false])):=⟨_,_,rfl,World.ownsRow_nil _ _ _ _,World.ownsRow_nil _ _ _ _,Df _ _ _ _,Df _ _ _ _⟩
theorem jL (w:World) (lo:Nat) (v1 v2:Value):Calls prog 197 #[] w fun r w'=>Ap w w' lo v1 v2 nothing r∧Below w w w':=by
 go_enter func197,ntmps197
 go_wp2;refine rE results197 rfl (bN Ch.zero (.slice none 0 0) (.slice none 0 0) qz) rfl (aQ Ha.zero qz) ⟨ru _ _ _ _ _,zB⟩
theorem bV (c:Ch) (h:Ha) (v1 v2:Value) (lo:Nat) (w:World) (h1:aF w lo v1 c.cells) (h2:aI w lo v2 c.words) :
  Calls prog 198 #[.agg (aH c v1 v2),.agg (aB h)] w fun r w'=>Ap w w' lo v1 v2 (done c h) r∧Below w w w':=by
 have I:=aA h1;have J:=aA h2;obtain ⟨a,p,rfl,K⟩:=h1.seg;obtain ⟨b,q,rfl,L⟩:=h2.seg;have H1:=aA K;have H2:=aA L;clear h1 h2 K L;by_cases hc:aN c=true
 ·by_cases G:aU h=true
  ·rw [Pt hc G]
   go_enter func198,ntmps198
   go_wp2_with (first|(go_at_call 112;refine aK w zB fun bb=>?_;refine (tJ c a b p q _ (aT H1 bb) (aT H2 bb)).mono ?_;rintro _ w1 ⟨rfl,tF⟩;obtain ⟨zV,xH,zz⟩:=gZ bb tF (b:=w);(try simp at xH);(try simp [go_sem] at zz);replace bX:=fP zz;clear zz;have V5:=zV;clear tF bb)|(go_at_call 119;refine aK w zB fun bb=>?_;refine (jI _ _).mono ?_;rintro _ w2 ⟨rfl,hbw2⟩;obtain ⟨zT,vP,zz⟩:=gZ bb hbw2 (b:=w);(try simp at vP);(first|simp [go_sem,bX] at zz|simp [go_sem] at zz|skip);replace bX:=fP zz;clear zz;have Ll:=zT;clear hbw2 bb))
   have O:=own_below I.out zT;have R:=own_below J.out zT;have M:=I.out;have N:=J.out
   go_region
   go_wp2;refine rE results198 rfl (bN c (.slice a c.cells p) (.slice b c.words q) tY) rfl (aQ h tY) ⟨⟨_,_,rfl,?_,?_,aP _ _,aP _ _⟩,zB⟩
   ·exact zO O M
   ·exact zO R N
  ·have H:aU h=false:=by simpa using G
   rw [Pw H];clear G;exact Uo
 ·have F:aN c=false:=by simpa using hc
  rw [Pv F];clear hc;exact Uo
end
section
open Go.RowKit
theorem Px {c:Ch} (h:aN c=false):sM c=Ch.zero∧Ai c=0:=by simp [sM,Ai,h]
theorem Aq {c:Ch} (h:aN c=true) (h2:80≤c.words.length):sM c=c∧Ai c=0:=by simp [sM,Ai,h,h2]
theorem Ar {c:Ch} (h:aN c=true) (h2:¬ 80≤c.words.length):sM c={ c with words:=c.words ++ [0] }∧Ai c=c.words.length+1:=by simp [sM,Ai,h,h2]
theorem Au (c:Ch) (a b:Option Addr) (p q:Nat) (w:World) (h1:gG w w a c.cells) (z1:a=none→p=0) (h2:gI w w b c.words) (z2:b=none→q=0) (m1:c.cells.length≤1099511627776) (m2:c.words.length≤1099511627776) :
  Calls prog 257 #[.agg #[c.cap,c.sent,c.got,c.fin,.slice a c.cells p,.slice b c.words q]] w fun r w' =>
   (∃ v1 v2,r=.returned (.tuple #[.agg #[.int .i64 (sM c).cap,.int .i64 (sM c).sent,.int .i64 (sM c).got,.int .i64 (sM c).fin,v1,v2],.int .i64 (Ai c)])∧aF w' w v1 (sM c).cells∧aI w' w v2 (sM c).words)∧Below w w w':=by
 have H1:=aA h1;have H2:=aA h2;have Z1:=aA z1;have Z2:=aA z2;have n1:c.cells.length≤maxLen:=by unfold maxLen;omega
 have n2:c.words.length≤maxLen:=by unfold maxLen;omega
 clear h1 h2 z1 z2;by_cases hc:aN c=true
 ·by_cases hf:80≤c.words.length
  ·have a6:c.words.length=80:=by
    have:=hc;simp [aN,fH] at this;omega
   have E:=aA (Aq hc hf);have ab:(80:Int)≤(c.words.length:Int):=tO;have a9:Hid ((c.words.length:Int)=80):=aA tO;clear a6;go_enter func257,ntmps257;go_wp2_with fail;refine aK w zB fun N=>?_;refine (iY c a b p q _ (aT H1 N) (aT H2 N) n1 n2).mono ?_;rintro _ R ⟨rfl,F⟩;have a2:Below w w R:=bT N F;have U:=F.size;(try simp at U);have O:=And.intro (fun o=>F.cell (p:=⟨w+1,o,none⟩) tS) <| And.intro (fun o=>F.frozen (p:=⟨w+1,o,none⟩) tS) <| And.intro (fun o=>F.cell (p:=⟨w,o,none⟩) tS) <| fun o=>F.frozen (p:=⟨w,o,none⟩) tS;(try simp [go_sem] at O);(try clear H J);(try clear L M);obtain ⟨H,J,L,M⟩:=O;(try clear G);have G:w+1<R.heap.size:=tO;(try clear K);have K:w<R.heap.size:=tO;clear F N
   rw [hc];go_wp2_with fail;refine aK w zB fun N=>?_;refine (rH c a b p q _ (aT H1 N) Z1.out (aT H2 N) Z2.out m1 m2).mono ?_;rintro _ T ⟨⟨v1,v2,rfl,V,X⟩,I⟩;have a4:Below w w T:=bT N I;have Z:=I.size;(try simp at Z);have O:=And.intro (fun o=>I.cell (p:=⟨w+1,o,none⟩) tS) <| And.intro (fun o=>I.frozen (p:=⟨w+1,o,none⟩) tS) <| And.intro (fun o=>I.cell (p:=⟨w,o,none⟩) tS) <| fun o=>I.frozen (p:=⟨w,o,none⟩) tS;(first|simp [go_sem,H,J,L,M,K,G] at O|simp [go_sem,H,L,K,G] at O|simp [go_sem] at O|skip);(try clear H J);(try clear L M);obtain ⟨H,J,L,M⟩:=O;(try clear G);have G:w+1<T.heap.size:=tO;(try clear K);have K:w<T.heap.size:=tO;clear I N
   try simp at V X
   have O1:=aA V;have O2:=aA X;obtain ⟨va,vc,rfl,_⟩:=aF.seg V;obtain ⟨vb,vd,rfl,_⟩:=aI.seg X;clear V X;have aa:=a9.out;go_wp2_with fail;have V:=O1.out;have X:=O2.out;obtain ⟨e1,e2⟩:=E.out;rw [e1,e2];refine bodyPost_ret (v:=.tuple #[.agg #[c.cap,c.sent,c.got,c.fin,.slice va c.cells vc,.slice vb c.words vd],.int .i64 0]) (by simp [results,results257,go_sem, *]) rfl ⟨⟨_,_,rfl,aL (lo:=R) ?_ tO,aL (lo:=R) ?_ tO⟩,zB⟩
   ·exact zO V V
   ·exact zO X X
  ·have E:=aA (Ar hc hf)
   have ab:¬ (80:Int)≤(c.words.length:Int):=tO;have aa:(c.words.length:Int)≠80:=tO;obtain ⟨i0,ad,ae,af,ag⟩:=info_parts pR;go_enter func257,ntmps257;go_wp2_with fail;refine aK w zB fun N=>?_;refine (iY c a b p q _ (aT H1 N) (aT H2 N) n1 n2).mono ?_;rintro _ R ⟨rfl,F⟩;have a2:Below w w R:=bT N F;have U:=F.size;(try simp at U);have O:=And.intro (fun o=>F.cell (p:=⟨w+1,o,none⟩) tS) <| And.intro (fun o=>F.frozen (p:=⟨w+1,o,none⟩) tS) <| And.intro (fun o=>F.cell (p:=⟨w,o,none⟩) tS) <| fun o=>F.frozen (p:=⟨w,o,none⟩) tS;(try simp [go_sem] at O);(try clear H J);(try clear L M);obtain ⟨H,J,L,M⟩:=O;(try clear G);have G:w+1<R.heap.size:=tO;(try clear K);have K:w<R.heap.size:=tO;clear F N
   rw [hc];go_wp2_with fail;refine aK w zB fun N=>?_;refine (rH c a b p q _ (aT H1 N) Z1.out (aT H2 N) Z2.out m1 m2).mono ?_;rintro _ T ⟨⟨v1,v2,rfl,V,X⟩,I⟩;have a4:Below w w T:=bT N I;have Z:=I.size;(try simp at Z);have O:=And.intro (fun o=>I.cell (p:=⟨w+1,o,none⟩) tS) <| And.intro (fun o=>I.frozen (p:=⟨w+1,o,none⟩) tS) <| And.intro (fun o=>I.cell (p:=⟨w,o,none⟩) tS) <| fun o=>I.frozen (p:=⟨w,o,none⟩) tS;(first|simp [go_sem,H,J,L,M,K,G] at O|simp [go_sem,H,L,K,G] at O|simp [go_sem] at O|skip);(try clear H J);(try clear L M);obtain ⟨H,J,L,M⟩:=O;(try clear G);have G:w+1<T.heap.size:=tO;(try clear K);have K:w<T.heap.size:=tO;clear I N
   try simp at V X
   have O1:=aA V;have O2:=aA X;obtain ⟨va,vc,rfl,_⟩:=aF.seg V;obtain ⟨vb,vd,rfl,_⟩:=aI.seg X;clear V X;have V:=O1.out;have X:=O2.out;have b2:=fun j (hj:(Value.slice vb c.words vd).ownBlock=some j)=>X.lt j hj
   have mw:∀ j,j<R.heap.size∨T.heap.size≤j→some j≠(Value.slice vb c.words vd).ownBlock:=fun j hj e=>by have:=b2 _ e.symm;omega
   have aj:=mw w tO;have ak:=mw (w+1) tO;have al:=mw T tO;go_wp2_with (at_builtin;refine wpList_append_lies _ rfl _ _ 29 rfl R.heap.size 2 i0 _ 1 8 underlying29 ad ae af ag rfl cB (.slice vb c.words vd) c.words (ints c.words) rfl (World.ownsRow.alloc (World.ownsRow.alloc X _) _) ⟨T+1,0,none⟩ 1 1 [.int .i64 0] rfl rfl ?c2 CF tO ?c3 ?c4 ?c5 (T+1+1) cK ?_)
   case c2=>have:=cell_one_new (T.alloc (.cells #[c.cap,c.sent,c.got,c.fin,.slice va c.cells vc,.slice vb c.words vd] 31)) (.int .i64 0) 2;simpa using this
   case c3=>unfold maxLen;omega
   case c4=>omega
   case c5=>simp;omega
   intro a0 q4 w4 o4 g4 a1 ah;have Y:T<T.heap.size+1:=tO;have a7:=g4.size;(try (simp at a7));have O:=And.intro (fun o=>g4.cell_far ⟨T,o,none⟩ tS dM) <| And.intro (fun o=>g4.frozen_far ⟨T,o,none⟩ tS dM) <| And.intro (fun o=>g4.cell_far ⟨w+1,o,none⟩ tS dM) <| And.intro (fun o=>g4.frozen_far ⟨w+1,o,none⟩ tS dM) <| And.intro (fun o=>g4.cell_far ⟨w,o,none⟩ tS dM) <| fun o=>g4.frozen_far ⟨w,o,none⟩ tS dM;(first|simp [go_sem,H,J,L,M,K,Y,G] at O|simp [go_sem,H,L,K,Y,G] at O|simp [go_sem] at O|skip);(try clear a8 a3);(try clear H J);(try clear L M);obtain ⟨a8,a3,H,J,L,M⟩:=O;(try clear Y);have Y:T<w4.heap.size:=tO;(try clear G);have G:w+1<w4.heap.size:=tO;(try clear K);have K:w<w4.heap.size:=tO
   have p1:aF w4 R (.slice va c.cells vc) c.cells:=((World.ownsRow.alloc (World.ownsRow.alloc V _) _)).kept g4 (D9 V X);have p2:aI w4 R (.slice (some ⟨a0,0,none⟩) (c.words.length+1) q4) (c.words ++ [0]):=aI.snoc o4;have ac:∀ j,j<R.heap.size∨(T.heap.size≤j∧j<T.heap.size+1)→(Value.slice (some ⟨a0,0,none⟩) (c.words.length+1) q4).ownBlock≠some j:=fun j h1 e=>by
    have e2:a0=j:=by simpa [Value.ownBlock] using e
    rcases a1 with a1|a1
    ·have:=b2 _ a1;omega
    ·omega
   have ai:Below w w w4:=mO zB g4 tS (fun k hk=>by have:=(b2 k hk).1;omega);clear o4 g4;go_wp2_with fail
   go_region
   all_goals go_wp2_with fail
   all_goals (obtain ⟨e1,e2⟩:=E.out;rw [e1,e2])
   all_goals refine bodyPost_ret (v:=.tuple #[.agg #[c.cap,c.sent,c.got,c.fin,.slice va c.cells vc,.slice (some ⟨a0,0,none⟩) (c.words.length+1) q4],.int .i64 (c.words.length+1)]) (by simp [results,results257,go_sem, *]) rfl ⟨⟨_,_,rfl,aL (lo:=R) ?_ tO,aL (lo:=R) ?_ tO⟩,zB⟩
   all_goals first|(repeat first|with_reducible exact p1|with_reducible refine xG ?_ _|with_reducible refine wM ?_|((with_reducible first|refine aV ?_ ?_ _|refine fC ?_ ?_);rotate_left;focus first|(refine own_ne V ?_;(try dsimp only);omega)|(refine dN V ?_;(try dsimp only);omega)))|skip
   all_goals (first|(repeat first|with_reducible exact p2|with_reducible refine xG ?_ _|with_reducible refine wM ?_|((with_reducible first|refine aV ?_ ?_ _|refine fC ?_ ?_);rotate_left;focus first|(refine own_ne p2 ?_;(try dsimp only);omega)|(refine dN p2 ?_;(try dsimp only);omega)|exact ac _ (by (try dsimp only) <;> omega)))|skip)
 ·have a5:aN c=false:=by simpa using hc
  have E:=aA (Px a5);clear hc;go_enter func257,ntmps257;go_wp2_with fail;refine aK w zB fun N=>?_;refine (iY c a b p q _ (aT H1 N) (aT H2 N) n1 n2).mono ?_;rintro _ R ⟨rfl,F⟩;have a2:Below w w R:=bT N F;have U:=F.size;(try simp at U);have O:=And.intro (fun o=>F.cell (p:=⟨w+1,o,none⟩) tS) <| And.intro (fun o=>F.frozen (p:=⟨w+1,o,none⟩) tS) <| And.intro (fun o=>F.cell (p:=⟨w,o,none⟩) tS) <| fun o=>F.frozen (p:=⟨w,o,none⟩) tS;(try simp [go_sem] at O);(try clear H J);(try clear L M);obtain ⟨H,J,L,M⟩:=O;(try clear G);have G:w+1<R.heap.size:=tO;(try clear K);have K:w<R.heap.size:=tO;clear F N
  rw [a5];go_wp2;rw [E.out.1,E.out.2];refine bodyPost_ret (v:=.tuple #[.agg #[Ch.zero.cap,Ch.zero.sent,Ch.zero.got,Ch.zero.fin,.slice none 0 0,.slice none 0 0],.int .i64 0]) (by simp [results,results257,go_sem,Ch.zero, *]) rfl ⟨⟨_,_,rfl,World.ownsRow_nil _ _ _ _,World.ownsRow_nil _ _ _ _⟩,zB⟩
end
end Go.Proofs.YtffhjmepfojhnaaGreat
