/-
  The reference model's writing into a cell of a channel of one's own; the lists are the call's own.
-/
import Derived.Test.YtffhjmepfojhnaaGreatS01
import Derived.Test.YtffhjmepfojhnaaGreatS04
import Derived.Test.YtffhjmepfojhnaaGreatS03
import Derived.Test.YtffhjmepfojhnaaGreatS05
import Derived.Laws.Cover3
import Derived.Deep.AppendLies
import Derived.BigRegion
import Derived.Test.YtffhjmepfojhnaaGreatS02
set_option maxRecDepth 100000
set_option maxHeartbeats 1000000
set_option linter.unusedSimpArgs false
set_option linter.unusedVariables false
namespace Go.Proofs.YtffhjmepfojhnaaGreat
open _root_.Go.Proofs.Tryz
section
open Go.RowKit
theorem aD.open1 {w:World} {lo:Nat} {v:Value} {cs:List C3} (h:aD w lo v cs) {i:Nat} (z:i<cs.length) :
  ∃ g cap,v=.slice (some ⟨g,0,none⟩) cs.length cap∧lo≤g∧g<w.heap.size∧(∀ j,j<3→w.cell? ⟨g,i*3+j,none⟩=some ((cs.getD i ⟨0,0,0⟩).val j))∧∀ o,w.frozen? ⟨g,o,none⟩=false:=by
 have y:=h
 rcases h.2 with ⟨_,E⟩|⟨g,cap,r,rfl,D,q,_⟩
 ·omega
 ·refine ⟨g,cap,rfl,D,(Array.getElem?_eq_some_iff.1 q).1,fun j A=>?_,fun o=>by simp [World.frozen?,q]⟩
  have:=y.cells (g:=g) rfl (i*3+j) _ (jf cs i j z A)
  have u:(⟨g,0,none⟩:Addr).add (i*3+j)=⟨g,i*3+j,none⟩:=by generalize i*3+j=m;by_cases e:m=0 <;> simp [Addr.add,e]
  rw [u] at this
  exact this
theorem aD.set {w:World} {lo g cap:Nat} {cs:List C3} (h:aD w lo (.slice (some ⟨g,0,none⟩) cs.length cap) cs) {i:Nat} (r:i<cs.length) (x:C3) :
  aD (((w.setCell ⟨g,i*3,none⟩ (.int .i64 x.s)).setCell ⟨g,i*3+1,none⟩ (.int .i64 x.e)).setCell ⟨g,i*3+2,none⟩ (.int .i64 x.t)) lo (.slice (some ⟨g,0,none⟩) cs.length cap) (cs.set i x):=by
 have h1:=jH h (i*3) (by rw [jO];omega) (.int .i64 x.s)
 have m:=jH h1 (i*3+1) (by rw [List.length_set,jO];omega) (.int .i64 x.e)
 have q:=jH m (i*3+2) (by rw [List.length_set,List.length_set,jO];omega) (.int .i64 x.t)
 unfold aD
 rw [sU,List.length_set]
 exact q
theorem aD.setS {w:World} {lo g cap:Nat} {cs:List C3} (h:aD w lo (.slice (some ⟨g,0,none⟩) cs.length cap) cs) {i:Nat} (u:i<cs.length) (s:Int) :
  aD (w.setCell ⟨g,i*3,none⟩ (.int .i64 s)) lo (.slice (some ⟨g,0,none⟩) cs.length cap) (cs.set i { cs.getD i ⟨0,0,0⟩ with s:=s }):=by
 have h1:=jH h (i*3) (by rw [jO];omega) (.int .i64 s)
 have q:=jf cs i 1 u tO
 have r:=jf cs i 2 u tO
 simp only [iq,C3.val] at q r
 have m:∀ (l:List Value) (j:Nat) (x:Value),l[j]?=some x→l.set j x=l:=fun l j x h=>by
  apply List.ext_getElem?
  intro n
  rw [List.getElem?_set]
  by_cases e:j=n
  ·subst e;simp only [if_true];rw [h];simp;exact (List.getElem?_eq_some_iff.1 h).1
  ·rw [if_neg e]
 unfold aD
 rw [sU,List.length_set]
 simp only
 rw [m _ (i*3+1) _ (by rw [List.getElem?_set_ne tO];exact q),m _ (i*3+2) _ (by rw [List.getElem?_set_ne tO];exact r)]
 exact h1
theorem jK (c:Ch) (i:Nat) (m:Int):(cB c i m).cells=c.cells.set i { c.cells.getD i ⟨0,0,0⟩ with s:=m }:=by simp [cB,setAt,cellAt]
theorem C8 (c:Ch) (i:Nat) (E:Int) (u A:Value) (lo:Nat) (w:World) (h1:aD w lo u c.cells) (y:aG w lo A c.words) (I:i<c.cells.length) :
  Calls prog 203 #[.agg #[c.cap,c.sent,c.got,c.fin,u,A],.int .i64 i,.int .i64 E] w fun r w'=>r=.returned (.agg #[c.cap,c.sent,c.got,c.fin,u,A])∧aD w' lo u (cB c i E).cells∧aG w' lo A c.words∧w.grownBy w' u.ownBlock:=by
 have K:=aA y
 have X:=h1.ne y
 obtain ⟨b,q,rfl,_⟩:=y.seg
 obtain ⟨g,cap,rfl,U,V,m,N⟩:=h1.open1 I
 have J:=aA h1
 have c0:=m 0 tO
 simp only [C3.val,Nat.add_zero] at c0
 have R:(0:Int)≤(i:Int):=by omega
 have T:(i:Int)<(c.cells.length:Int):=by omega
 have O:w.heap.size≠g:=by omega
 have F:w.heap.size+1≠g:=by omega
 have G:g≠w.heap.size:=by omega
 have H:g≠w.heap.size+1:=by omega
 generalize M:c.cells.getD i ⟨0,0,0⟩=x at c0
 clear h1 y m
 go_enter func203,ntmps203
 go_wp2
 have D:=J.out
 have z:=K.out
 have L:=aD.setS D I E
 rw [jK]
 refine bodyPost_ret (v:=.agg #[c.cap,c.sent,c.got,c.fin,.slice (some ⟨g,0,none⟩) c.cells cap,.slice b c.words q]) (by simp [results,results203,go_sem, *]) rfl ⟨rfl,?_,?_,?_⟩
 ·exact zO L D
 ·(repeat first|with_reducible exact z|with_reducible refine rQ ?_ _|with_reducible refine qh ?_|((with_reducible first|refine aI ?_ ?_ _|refine dZ ?_ ?_);rotate_left;focus first|(refine own_ne z ?_;(try dsimp only);omega)|(refine dN z ?_;(try dsimp only);omega)|exact fun h=>aD.ne D z _ rfl h))
 ·show Gr g w _
  (repeat (first|with_reducible assumption|with_reducible exact gR _ _|with_reducible refine gA ?_|with_reducible refine gD ?_|with_reducible refine gS ?_ (.inl rfl)|((with_reducible refine QK ?_ (.inr ?_));rotate_left;(focus ((try dsimp only);(try simp);(try omega))))|((with_reducible refine gS ?_ (.inr ?_));rotate_left;(focus ((try dsimp only);(try simp);(try omega))))))
theorem uC (c:Ch) (i:Nat) (f t v:Int):(bK c i f t v).cells=c.cells.set i (lG (c.cells.getD i ⟨0,0,0⟩) f t v):=by simp [bK,setAt,cellAt]
theorem zi (c:Ch) (i:Nat) (f t v:Int):bQ c i f t v=vH (c.cells.getD i ⟨0,0,0⟩) f t v:=by simp [bQ,cellAt]
theorem ER (c:Ch) (i:Nat) (f t v:Int) (G K:Value) (lo:Nat) (w:World) (h1:aD w lo G c.cells) (I:aG w lo K c.words) (hi:i<c.cells.length) :
  Calls prog 214 #[.agg #[c.cap,c.sent,c.got,c.fin,G,K],.int .i64 i,.int .i64 f,.int .i64 t,.int .i64 v] w fun r w'=>r=.returned (.tuple #[.agg #[c.cap,c.sent,c.got,c.fin,G,K],.bool (bQ c i f t v)])∧aD w' lo G (bK c i f t v).cells∧aG w' lo K c.words∧w.grownBy w' G.ownBlock:=by
 have O2:=aA I
 have aa:=h1.ne I
 obtain ⟨b,q,rfl,_⟩:=I.seg
 obtain ⟨g,cap,rfl,a9,D,y,a4⟩:=h1.open1 hi
 have O1:=aA h1
 have c0:=y 0 tO
 have V:=y 1 tO
 have c2:=y 2 tO
 simp only [C3.val,Nat.add_zero] at c0 V c2
 have a7:(0:Int)≤(i:Int):=by omega
 have a8:(i:Int)<(c.cells.length:Int):=by omega
 have a6:w.heap.size≠g:=by omega
 have Y:w.heap.size+1≠g:=by omega
 have Z:g≠w.heap.size:=by omega
 have a0:g≠w.heap.size+1:=by omega
 rw [uC,zi]
 unfold vH lG
 generalize M:c.cells.getD i ⟨0,0,0⟩=x at c0 V c2
 clear h1 I y M
 go_enter func214,ntmps214
 go_wp2_with fail;refine aK w zB fun U=>?_;refine (Cj _ _ _ f t v _).mono ?_;rintro _ z ⟨hr,m⟩;have u:Below w w z:=bT U m;have E:=m.size;(try simp at E);have zz:=And.intro (fun o=>m.cell (p:=⟨w+1,o,none⟩) tS) <| And.intro (fun o=>m.frozen (p:=⟨w+1,o,none⟩) tS) <| And.intro (fun o=>m.cell (p:=⟨w,o,none⟩) tS) <| fun o=>m.frozen (p:=⟨w,o,none⟩) tS;(try simp [go_sem] at zz);(try clear H A);(try clear R L);obtain ⟨H,A,R,L⟩:=zz;(try clear F);have F:w+1<z.heap.size:=tO;(try clear N);have N:w<z.heap.size:=tO;have X:Below w w z:=u;clear m U
 unfold uh at hr
 subst hr
 have O:=O1.out
 have J:=O2.out
 have p1:=own_below O u
 have p2:=own_below J u
 have d1:=fun o=>(u.cell (p:=⟨g,o,none⟩) D)
 have d2:=fun o=>(u.frozen (p:=⟨g,o,none⟩) D)
 have a1:g<z.heap.size:=by omega
 have a2:z.heap.size≠g:=by omega
 have a3:g≠z.heap.size:=by omega
 have T:=aD.set p1 hi (lG x f t v)
 simp only [lG] at T
 go_wp2
 refine bodyPost_ret (v:=.tuple #[.agg #[c.cap,c.sent,c.got,c.fin,.slice (some ⟨g,0,none⟩) c.cells cap,.slice b c.words q],.bool (jS x.s x.e x.t f t v)]) (by simp [results,results214,go_sem, *]) rfl ⟨rfl,?_,?_,?_⟩
 ·exact zO T O
 ·(repeat first|with_reducible exact p2|with_reducible refine rQ ?_ _|with_reducible refine qh ?_|((with_reducible first|refine aI ?_ ?_ _|refine dZ ?_ ?_);rotate_left;focus first|(refine own_ne J ?_;(try dsimp only);omega)|(refine dN J ?_;(try dsimp only);omega)|exact fun h=>aD.ne O J _ rfl h))
 ·have a5:Gr g w z:=rf u
  show Gr g w _
  (repeat (first|with_reducible assumption|with_reducible exact gR _ _|with_reducible refine gA ?_|with_reducible refine gD ?_|with_reducible refine gS ?_ (.inl rfl)|((with_reducible refine QK ?_ (.inr ?_));rotate_left;(focus ((try dsimp only);(try simp);(try omega))))|((with_reducible refine gS ?_ (.inr ?_));rotate_left;(focus ((try dsimp only);(try simp);(try omega))))))
end
section
open Go.RowKit
theorem mG (c:Ch) (v:Int) (b:Option Addr) (q:Nat) (w:World) :
  Calls prog 168 #[.slice b c.words q,.int .i64 v] w fun r w'=>r=.returned (.bool (kF c v))∧Below w w w':=by
 go_enter func168,ntmps168
 go_wp2
 all_goals go_ret
 all_goals exact ⟨dB (by simp [kF,dA, *] <;> omega),by exact zB⟩
theorem ES (c:Ch) (v:Int) (a b:Option Addr) (p q:Nat) (w:World) (h1:fA w w a c.cells) (I:fD w w b c.words) (O:c.cells.length≤maxLen) (L:c.words.length≤maxLen) :
  Calls prog 280 #[.agg #[c.cap,c.sent,c.got,c.fin,.slice a c.cells p,.slice b c.words q],.int .i64 v] w fun r w'=>r=.returned (.int .i64 (iZ c v))∧Below w w w':=by
 have M:=aA h1
 have H:=aA I
 have m3:=L
 unfold maxLen at m3
 clear h1 I
 by_cases Y:aW c=true
 ·by_cases N:kF c v=true
  ·obtain ⟨v1,v2⟩:=pK.1 N
   obtain ⟨i,rfl⟩:∃ i:Nat,v=(i:Int)+1:=⟨(v - 1).toNat,by omega⟩
   have Z:i<c.words.length:=by omega
   obtain ⟨U,V,rfl,X,u⟩:∃ E o,b=some ⟨E,o,none⟩∧E<w.heap.size∧w.cell? ⟨E,o+i,none⟩=some (.int .i64 (c.words.getD i 0)):=by
    rcases H.out with h0|⟨E,o',e,h1,I⟩
    ·omega
    ·exact ⟨E,o',e,h1,by simpa [jT] using I i 0 Z tO⟩
   have D:=aA (EC Y N)
   have e:fJ c ((i:Int)+1)=c.words.getD i 0:=by simp [fJ]
   have T:=aA e
   clear e
   generalize c.words.getD i 0=x at u T
   have a0:(0:Int)≤(i:Int):=by omega
   have a1:(i:Int)<(c.words.length:Int):=by omega
   go_enter func280,ntmps280
   go_wp2_with fail
   refine (jo c a _ p q _ (((M.out).below zB).more (by simp)) (((H.out).below zB).more (by simp)) O L).mono ?_
   rintro _ G ⟨rfl,m⟩
   have z:Below w w G:=bT zB m
   have A:=m.size
   simp at A
   have:=fun o=>m.cell (p:=⟨w,o,none⟩) (by simp)
   have J:=(z.cell (p:=⟨U,V+i,none⟩) X).trans u
   go_wp2_with fail
   refine (mG c _ _ q _).mono ?_
   rintro _ R ⟨rfl,y⟩
   have F:Below w w R:=bT zB y
   have:=fun o=>y.cell (p:=⟨w,o,none⟩) (by simp;omega)
   have K:=(F.cell (p:=⟨U,V+i,none⟩) X).trans u
   go_wp2
   go_ret
   exact ⟨ou (by rw [← D.out,T.out]),by exact zB⟩
  ·have D:=aA (yN (c:=c) (v:=v) (by simp [N]))
   go_enter func280,ntmps280
   go_wp2_with fail
   refine (jo c a b p q _ (((M.out).below zB).more (by simp)) (((H.out).below zB).more (by simp)) O L).mono ?_
   rintro _ G ⟨rfl,m⟩
   have z:Below w w G:=bT zB m
   have A:=m.size
   simp at A
   have:=fun o=>m.cell (p:=⟨w,o,none⟩) (by simp)
   go_wp2_with fail
   refine (mG c _ b q _).mono ?_
   rintro _ R ⟨rfl,y⟩
   have F:Below w w R:=bT zB y
   go_wp2
   go_ret
   exact ⟨ou D.out,by exact zB⟩
 ·have D:=aA (yN (c:=c) (v:=v) (by simp [Y]))
  go_enter func280,ntmps280
  go_wp2_with fail
  refine (jo c a b p q _ (((M.out).below zB).more (by simp)) (((H.out).below zB).more (by simp)) O L).mono ?_
  rintro _ G ⟨rfl,m⟩
  have z:Below w w G:=bT zB m
  go_wp2
  go_ret
  exact ⟨ou D.out,by exact zB⟩
theorem Lr (t e:TypeId) (a:Option Addr) (l c:Nat) (h:Tryz.prog.underlying t=some (.slice e)) (w:World):(binOp .eql t (.slice a l c) (.slice none 0 0)).run prog w=.ok (.bool a.isNone) w:=by
 simp only [binOp]
 simp [run_equal_slice_nil w t e a l c h]
theorem ET (l:List Int) (b:Option Addr) (q:Nat) (w:World) (h:fD w w b l) (I:b=none→q=0) (U:l.length≤1099511627776) :
  Calls prog 153 #[.slice b l.length q] w fun r w'=>(∃ v,r=.returned v∧aG w' w v l)∧Below w w w':=by
 obtain ⟨R,A,E,F,G⟩:=info_parts kL
 have H:=Lr _ _ b l.length q underlying29
 rcases b with _|⟨y,z,J⟩
 ·obtain rfl:=I rfl
  have O:l.length=0:=by rcases h with h|⟨_,_,h,_⟩;exact h;cases h
  obtain rfl:l=[]:=List.eq_nil_of_length_eq_zero O
  simp at H
  go_enter func153,ntmps153
  go_wp2
  go_ret
  exact ⟨⟨_,rfl,World.ownsRow_nil _ _ _ _⟩,by exact zB⟩
 ·have K:Hid (∀ j u,(ints l)[j]?=some u→w.cell? ((⟨y,z,J⟩:Addr).add j)=some u):=by
   rcases h with L|⟨T,V,e,h1,M⟩
   ·obtain rfl:l=[]:=List.eq_nil_of_length_eq_zero L
    intro j u D;simp [ints] at D
   ·simp at e
    obtain ⟨rfl,rfl,rfl⟩:=e
    exact Seg.newsI (.inr ⟨y,z,rfl,h1,M⟩)
  clear h I
  simp at H
  go_enter func153,ntmps153
  go_wp2_with (at_builtin;refine wpList_append_own _ rfl _ _ 29 rfl w.heap.size 2 R _ 1 8 underlying29 A E F G rfl (by decide) _ 0 [] rfl (nP _ _ _ _ (Nat.le_refl _)) ⟨y,z,J⟩ l.length q (ints l) rfl (by simp [ints]) ?c0 (BO l) ?c3 ?c4 ?c5 ?_)
  case c0=>exact fun j u D=>jm (K.out j u D)
  case c3=>unfold maxLen;omega
  case c4=>omega
  case c5=>simp
  intro v X m N _
  go_wp2
  go_ret
  exact ⟨⟨_,rfl,by simpa using m⟩,iN zB N (by simp) (by simp [Value.ownBlock])⟩
theorem EU (l:List C3) (b:Option Addr) (q:Nat) (w:World) (h:fA w w b l) (I:b=none→q=0) (U:l.length≤1099511627776) :
  Calls prog 152 #[.slice b l.length q] w fun r w'=>(∃ v,r=.returned v∧aD w' w v l)∧Below w w w':=by
 obtain ⟨R,A,E,F,G⟩:=info_parts yM
 have H:=Lr _ _ b l.length q underlying28
 rcases b with _|⟨y,z,J⟩
 ·obtain rfl:=I rfl
  have O:l.length=0:=by rcases h with h|⟨_,_,h,_⟩;exact h;cases h
  obtain rfl:l=[]:=List.eq_nil_of_length_eq_zero O
  simp at H
  go_enter func152,ntmps152
  go_wp2
  go_ret
  exact ⟨⟨_,rfl,World.ownsRow_nil _ _ _ _⟩,by exact zB⟩
 ·have K:Hid (∀ j u,(jB l)[j]?=some u→w.cell? ((⟨y,z,J⟩:Addr).add j)=some u):=by
   rcases h with L|⟨T,V,e,h1,M⟩
   ·obtain rfl:l=[]:=List.eq_nil_of_length_eq_zero L
    intro j u D;simp [jB] at D
   ·simp at e
    obtain ⟨rfl,rfl,rfl⟩:=e
    exact Seg.newsC (.inr ⟨y,z,rfl,h1,M⟩)
  clear h I
  simp at H
  go_enter func152,ntmps152
  go_wp2_with (at_builtin;refine wpList_append_own _ rfl _ _ 28 rfl w.heap.size 93 R _ 3 24 underlying28 A E F G rfl (by decide) _ 0 [] rfl (nP _ _ _ _ (Nat.le_refl _)) ⟨y,z,J⟩ l.length q (jB l) rfl (jO l) ?c0 (yI l) ?c3 ?c4 ?c5 ?_)
  case c0=>exact fun j u D=>jm (K.out j u D)
  case c3=>unfold maxLen;omega
  case c4=>omega
  case c5=>simp
  intro v X m N _
  go_wp2
  go_ret
  exact ⟨⟨_,rfl,by simpa using m⟩,iN zB N (by simp) (by simp [Value.ownBlock])⟩
end
section
open Go.RowKit
theorem mU (c:Ch) (a b:Option Addr) (p q:Nat) (w:World) (h1:fA w w a c.cells) (O:a=none→p=0) (J:fD w w b c.words) (R:b=none→q=0) (Z:c.cells.length≤1099511627776) (m2:c.words.length≤1099511627776) :
  Calls prog 101 #[.agg #[c.cap,c.sent,c.got,c.fin,.slice a c.cells p,.slice b c.words q]] w fun r w' =>
   (∃ F G,r=.returned (.agg #[c.cap,c.sent,c.got,c.fin,F,G])∧aD w' w F c.cells∧aG w' w G c.words)∧Below w w w':=by
 obtain ⟨cap,sent,got,fin,cells,words⟩:=c
 simp only at *
 have T:=aA h1
 have V:=aA O
 have U:=aA J
 have X:=aA R
 clear h1 J O R
 go_enter func101,ntmps101
 go_wp2_with fail
 refine (EU cells a p _ ((T.out.below zB).more (by simp;try omega)) V.out Z).mono ?_
 rintro _ H ⟨⟨F,rfl,D⟩,u⟩
 have z:=u.size
 simp at z
 have:=fun o=>u.cell (p:=⟨w,o,none⟩) (by simp;omega)
 have:=fun o=>u.frozen (p:=⟨w,o,none⟩) (by simp;omega)
 have:=fun o=>u.cell (p:=⟨w+1,o,none⟩) (by simp)
 have:=fun o=>u.frozen (p:=⟨w+1,o,none⟩) (by simp)
 have y:Below w w H:=bT zB u
 have k0:w<H.heap.size:=by omega
 have k1:w+1<H.heap.size:=by omega
 have Rm:=aH D (lo':=w+1+1) (by simp)
 obtain ⟨M,N,rfl,_⟩:=aD.seg D
 clear D u
 go_wp2_with fail
 refine (ET words b q _ ((U.out.below y).setOther (by simp [World.setCell];omega) (by simp)) X.out m2).mono ?_
 rintro _ I ⟨⟨G,rfl,E⟩,m⟩
 have K:=own_below (aI Rm (p:=⟨w,4,none⟩) (own_ne Rm (by (try simp);try omega)) (.slice M cells.length N)) m
 have L:=aH E (lo':=w+1+1) (by simp [World.setCell];omega)
 obtain ⟨vb,vd,rfl,_⟩:=aG.seg E
 clear E
 have A:=m.size
 simp [World.setCell] at A
 have Y:Below w w I:=bT zB m
 have:=fun o=>m.cell (p:=⟨w,o,none⟩) (by simp [World.setCell];omega)
 have:=fun o=>m.frozen (p:=⟨w,o,none⟩) (by simp [World.setCell];omega)
 have:=fun o=>m.cell (p:=⟨w+1,o,none⟩) (by simp [World.setCell];omega)
 have:=fun o=>m.frozen (p:=⟨w+1,o,none⟩) (by simp [World.setCell];omega)
 clear m
 have:w<I.heap.size:=by omega
 have:w+1<I.heap.size:=by omega
 go_wp2_with fail
 refine bodyPost_ret (v:=.agg #[.int .i64 cap,.int .i64 sent,.int .i64 got,.int .i64 fin,.slice M cells.length N,.slice vb words.length vd]) (by simp [results,results101,go_sem, *]) rfl ⟨⟨_,_,rfl,?_,?_⟩,?_⟩
 ·refine aH (lo:=w+1+1) ?_ tO
  repeat (first|with_reducible exact K|((with_reducible refine aI ?_ ?_ _);rotate_left;(focus exact own_ne K (by (try simp);try omega))))
 ·refine aH (lo:=w+1+1) ?_ tO
  repeat (first|with_reducible exact L|((with_reducible refine aI ?_ ?_ _);rotate_left;(focus exact own_ne L (by (try simp);try omega))))
 ·exact zB
end
section
open Go.RowKit
theorem pU {w w':World} {row:Option Nat} (h:Below w w w'):w.grownBy w' row:=⟨h.os,h.tape,h.output,h.size,fun i m _=>h.block i m⟩
theorem PS {w w':World} {g:Nat} (h:Below w w w') (o:Nat) (u:Value):w.grownBy (w'.setCell ⟨g,o,none⟩ u) (some g) :=
 ⟨h.os,h.tape,h.output,by simp [World.setCell];exact h.size,fun i m q=>by rw [Below.heap_setCell w' ⟨g,o,none⟩ u i (fun e=>q (by rw [e]))];exact h.block i m⟩
theorem C9 (c:Ch) (v x:Int) (M N:Nat) (K:Value) (lo:Nat) (w:World) (h:aG w lo K c.words) (U:w.cell? ⟨M,0,none⟩=some K) (c2:w.cell? ⟨N,0,none⟩=some (.int .i64 v)) (hm:c.words.length≤1099511627776) :
  Calls prog 167 #[.int .i64 x,.pointer (some ⟨M,0,none⟩),.pointer (some ⟨N,0,none⟩)] w fun r w'=>r=.returned (.bool (eY c v x))∧aG w' lo K (dM c v x).words∧w.grownBy w' K.ownBlock:=by
 have Y:=World.block_lt_of_cell? w _ U
 have Z:=World.block_lt_of_cell? w _ c2
 simp only at Y Z
 by_cases J:kF c v=true
 ·obtain ⟨a1,a2⟩:=pK.1 J
  obtain ⟨i,rfl⟩:∃ i:Nat,v=(i:Int)+1:=⟨(v - 1).toNat,by omega⟩
  have V:i<c.words.length:=by omega
  obtain ⟨g,cap,rfl,a4,H,z,O⟩:=h.open1 V
  have e:fJ c ((i:Int)+1)=c.words.getD i 0:=by simp [fJ]
  have G:=aA e
  have L:=aA h
  clear e h
  generalize c.words.getD i 0=y at z G
  have a0:(0:Int)≤(i:Int):=by omega
  have a3:(i:Int)<(c.words.length:Int):=by omega
  go_enter func167,ntmps167
  go_wp2_with fail
  refine (mG c _ _ cap _).mono ?_
  rintro _ w1 ⟨rfl,m⟩
  have d1:=(m.cell (p:=⟨M,0,none⟩) Y).trans U
  have d2:=(m.cell (p:=⟨N,0,none⟩) Z).trans c2
  have d3:=(m.cell (p:=⟨g,i,none⟩) H).trans z
  have d4:=fun o=>(m.frozen (p:=⟨g,o,none⟩) H).trans (O o)
  have I:=own_below L.out m
  by_cases F:eY c ((i:Int)+1) x=true
  ·have A:=F
   unfold eY at A
   rw [G.out] at A
   simp [J] at A
   obtain ⟨rfl,q⟩:=A
   have E:Hid ((dM c ((i:Int)+1) x).words=c.words.set i x):=by unfold dM;rw [if_pos F];simp [Hid]
   have D:=aA F
   have X:x=1∨x=2:=by simp [dA] at q;omega
   have R:(x != 1 && x != 2)=false:=by rcases X with rfl|rfl <;> rfl
   clear F G q
   rcases X with rfl|rfl
   all_goals go_wp2
   all_goals go_ret
   all_goals exact ⟨dB (by rw [D.out]),by rw [E.out];exact aG.set I V _,PS m _ _⟩
  ·have u:eY c ((i:Int)+1) x=false:=by simpa using F
   have D:=aA u
   have E:=aA (pM u)
   unfold eY at u
   rw [G.out] at u
   simp [J] at u
   clear G F
   by_cases T:y=0
   ·subst T
    have q:=u rfl
    have a5:(x != 1)=true:=by simp [dA] at q;simp;omega
    have R:(x != 2)=true:=by simp [dA] at q;simp;omega
    clear u q
    go_wp2
    go_ret
    exact ⟨dB (by rw [D.out]),by rw [E.out];exact I,pU m⟩
   ·have a6:(y != 0)=true:=by simpa using T
    clear u T
    go_wp2
    go_ret
    exact ⟨dB (by rw [D.out]),by rw [E.out];exact I,pU m⟩
 ·have u:=yO (x:=x) (by simpa using J)
  have D:=aA u
  have E:=aA (pM u)
  clear u
  have L:=aA h
  obtain ⟨a2,q2,rfl,_⟩:=h.seg
  clear h
  go_enter func167,ntmps167
  go_wp2_with fail
  refine (mG c _ _ q2 _).mono ?_
  rintro _ w1 ⟨rfl,m⟩
  have I:=own_below L.out m
  go_wp2
  go_ret
  exact ⟨dB (by rw [D.out]),by rw [E.out];exact I,pU m⟩
def told (c:Ch) (v x:Int):Ch:=if aW c then dM c v x else Ch.zero
def vW (c:Ch) (v x:Int):Bool:=aW c && eY c v x
def p9 (c:Ch):Ch:=if aW c then (if 80≤c.words.length then c else { c with words:=c.words ++ [0] }) else Ch.zero
def vX (c:Ch):Int:=if aW c then (if 80≤c.words.length then 0 else c.words.length+1) else 0
theorem O6 {c:Ch} {v x:Int} (h:aW c=false):told c v x=Ch.zero∧vW c v x=false:=by simp [told,vW,h]
theorem CE {c:Ch} {v x:Int} (h:aW c=true):told c v x=dM c v x∧vW c v x=eY c v x:=by simp [told,vW,h]
theorem nA (c:Ch) (v x:Int):(dM c v x).cells=c.cells∧(dM c v x).cap=c.cap∧(dM c v x).sent=c.sent∧(dM c v x).got=c.got∧(dM c v x).fin=c.fin:=by unfold dM;split <;> simp
end
section
open Go.RowKit
theorem EW (a:Option Addr) (n p:Nat) (v:Int) (w:World) :
  Calls prog 118 #[.slice a n p,.int .i64 v] w fun r w'=>r=.returned (.func (.func 167) #[] #[.pointer (some ⟨w,0,none⟩),.pointer (some ⟨w+1,0,none⟩)])∧w'.cell? ⟨w,0,none⟩=some (.slice a n p)∧w'.cell? ⟨w+1,0,none⟩=some (.int .i64 v)∧Below w w w':=by
 go_enter func118,ntmps118
 go_wp2
 go_ret
 exact ⟨rfl,by simp [go_sem],by simp [go_sem],by exact zB⟩
theorem CF (c:Ch) (v x:Int) (a b:Option Addr) (p q:Nat) (w:World) (h1:fA w w a c.cells) (z1:a=none→p=0) (h2:fD w w b c.words) (z2:b=none→q=0) (m1:c.cells.length≤1099511627776) (m2:c.words.length≤1099511627776) :
  Calls prog 68 #[.agg #[c.cap,c.sent,c.got,c.fin,.slice a c.cells p,.slice b c.words q],.int .i64 v,.int .i64 x] w fun r w' =>
   (∃ v1 v2,r=.returned (.tuple #[.agg #[.int .i64 (told c v x).cap,.int .i64 (told c v x).sent,.int .i64 (told c v x).got,.int .i64 (told c v x).fin,v1,v2],.bool (vW c v x)])∧aD w' w v1 (told c v x).cells∧aG w' w v2 (told c v x).words)∧Below w w w':=by
 have H1:=aA h1
 have H2:=aA h2
 have Z1:=aA z1
 have Z2:=aA z2
 have n1:c.cells.length≤maxLen:=by unfold maxLen;omega
 have n2:c.words.length≤maxLen:=by unfold maxLen;omega
 clear h1 h2 z1 z2
 by_cases hc:aW c=true
 ·obtain ⟨K,L⟩:=CE (v:=v) (x:=x) hc
  obtain ⟨f1,f2,f3,f4,f5⟩:=nA c v x
  have E:=aA (And.intro K L)
  have FF:=aA (nA c v x)
  clear K L f1 f2 f3 f4 f5
  go_enter func68,ntmps68
  go_wp2_with fail;refine aK w zB fun A=>?_;refine (jo c a b p q _ (aT H1 A) (aT H2 A) n1 n2).mono ?_;rintro _ w1 ⟨rfl,m⟩;have U:=bT A m;have F:=m.size;(try simp at F);have y:=And.intro (oZ m (b:=w+1)) <| oZ m (b:=w);(try simp [go_sem] at y);replace O:=y;clear y m A
  rw [hc]
  go_wp2_with fail;refine aK w zB fun A=>?_;refine (mU c a b p q _ (aT H1 A) Z1.out (aT H2 A) Z2.out m1 m2).mono ?_;rintro _ J ⟨⟨v1,v2,rfl,I,G⟩,D⟩;have a7:=bT A D;have X:=D.size;(try simp at X);have y:=And.intro (oZ D (b:=w+1)) <| oZ D (b:=w);(first|simp [go_sem,O] at y|simp [go_sem] at y|skip);replace O:=y;clear y D A
  try simp at I G
  have O1:=aA I
  have O2:=aA G
  obtain ⟨va,vc,rfl,_⟩:=aD.seg I
  obtain ⟨M,N,rfl,_⟩:=aG.seg G
  clear I G
  have I:=O1.out
  have G:=O2.out
  go_wp2_with fail;refine aK w zB fun A=>?_;refine aK J zB fun bk=>?_;refine (EW _ _ _ _ _).mono ?_;rintro _ w3 ⟨rfl,d1,d2,u⟩;have a8:=bT A u;have Y:=u.size;(try simp at Y);have y:=And.intro (oZ u (b:=J)) <| And.intro (oZ u (b:=w+1)) <| oZ u (b:=w);(first|simp [go_sem,O] at y|simp [go_sem] at y|skip);replace O:=y;clear y;have H:=bT bk u;clear u A bk
  simp at d1 d2
  have q1:=own_below I H
  have q2:=own_below G H
  have b2:=fun j (hj:(Value.slice M c.words N).ownBlock=some j)=>G.lt j hj
  have ab:some (w.heap.size+1)≠(Value.slice M c.words N).ownBlock:=fun e=>by have:=(b2 _ e.symm).1;omega
  have ac:some J.heap.size≠(Value.slice M c.words N).ownBlock:=fun e=>by have:=(b2 _ e.symm).2;omega
  have aa:some w.heap.size≠(Value.slice M c.words N).ownBlock:=fun e=>by have:=(b2 _ e.symm).1;omega
  go_wp2_with fail
  go_region_with (first|(refine (C9 c v x (J+1) (J+1+1) (.slice M c.words N) w1 _ (zO q2 G) (by simpa [go_sem] using d1) (by simpa [go_sem] using d2) m2).mono ?_;rintro _ w4 ⟨rfl,p2,z⟩;have Z:=z.size;(try (simp at Z));have y:=And.intro (fun o=>z.cell_far ⟨J,o,none⟩ tS (by assumption)) <| And.intro (fun o=>z.frozen_far ⟨J,o,none⟩ tS (by assumption)) <| And.intro (fun o=>z.cell_far ⟨w+1,o,none⟩ tS (by assumption)) <| And.intro (fun o=>z.frozen_far ⟨w+1,o,none⟩ tS (by assumption)) <| And.intro (fun o=>z.cell_far ⟨w,o,none⟩ tS (by assumption)) <| fun o=>z.frozen_far ⟨w,o,none⟩ tS (by assumption);(try simp [go_sem] at y);(try clear a2 R);(try clear a3 T);(try clear a6 a4);obtain ⟨a2,R,a3,T,a6,a4⟩:=y;(try clear a0);have a0:J<w4.heap.size:=tO;(try clear a1);have a1:w+1<w4.heap.size:=tO;(try clear a5);have a5:w<w4.heap.size:=tO;have p1:=(World.ownsRow.drew q1).kept z (zV q1 q2);have a9:Below w w w4:=iN zB z tS (fun k hk=>by have:=(b2 k hk).1;omega)))
  all_goals go_wp2
  all_goals (obtain ⟨K,L⟩:=E.out;obtain ⟨f1,f2,f3,f4,f5⟩:=FF.out;rw [K,L,f1,f2,f3,f4,f5])
  all_goals (refine bodyPost_ret (v:=.tuple #[.agg #[c.cap,c.sent,c.got,c.fin,.slice va c.cells vc,.slice M c.words N],.bool (eY c v x)]) (by simp [results,results68,go_sem, *]) rfl ⟨⟨_,_,rfl,aH (lo:=w1) ?_ tO,aH (lo:=w1) ?_ tO⟩,by exact zB⟩)
  all_goals (have P1:aD _ _ _ _:=p1)
  all_goals first|(repeat first|with_reducible exact p2|with_reducible refine rQ ?_ _|with_reducible refine qh ?_|((with_reducible first|refine aI ?_ ?_ _|refine dZ ?_ ?_);rotate_left;focus first|(refine own_ne G ?_;(try dsimp only);omega)|(refine dN G ?_;(try dsimp only);omega)))|skip
  all_goals first|(repeat first|with_reducible exact p1|with_reducible refine rQ ?_ _|with_reducible refine qh ?_|((with_reducible first|refine aI ?_ ?_ _|refine dZ ?_ ?_);rotate_left;focus first|(refine own_ne I ?_;(try dsimp only);omega)|(refine dN I ?_;(try dsimp only);omega)))|skip
 ·have V:aW c=false:=by simpa using hc
  obtain ⟨K,L⟩:=O6 (v:=v) (x:=x) V
  have E:=aA (And.intro K L)
  clear K L hc
  go_enter func68,ntmps68
  go_wp2_with fail;refine aK w zB fun A=>?_;refine (jo c a b p q _ (aT H1 A) (aT H2 A) n1 n2).mono ?_;rintro _ w1 ⟨rfl,m⟩;have U:=bT A m;have F:=m.size;(try simp at F);have y:=And.intro (oZ m (b:=w+1)) <| oZ m (b:=w);(try simp [go_sem] at y);replace O:=y;clear y m A
  rw [V]
  go_wp2
  rw [E.out.1,E.out.2]
  refine bodyPost_ret (v:=.tuple #[.agg #[Ch.zero.cap,Ch.zero.sent,Ch.zero.got,Ch.zero.fin,.slice none 0 0,.slice none 0 0],.bool false]) (by simp [results,results68,go_sem,Ch.zero, *]) rfl ⟨⟨_,_,rfl,World.ownsRow_nil _ _ _ _,World.ownsRow_nil _ _ _ _⟩,by exact zB⟩
end
section
open Go.RowKit
theorem Ls {c:Ch} (h:aW c=false):p9 c=Ch.zero∧vX c=0:=by simp [p9,vX,h]
theorem vY {c:Ch} (h:aW c=true) (m:80≤c.words.length):p9 c=c∧vX c=0:=by simp [p9,vX,h,m]
theorem vZ {c:Ch} (h:aW c=true) (m:¬ 80≤c.words.length):p9 c={ c with words:=c.words ++ [0] }∧vX c=c.words.length+1:=by simp [p9,vX,h,m]
theorem wh (c:Ch) (a b:Option Addr) (p q:Nat) (w:World) (h1:fA w w a c.cells) (z1:a=none→p=0) (h2:fD w w b c.words) (z2:b=none→q=0) (m1:c.cells.length≤1099511627776) (m2:c.words.length≤1099511627776) :
  Calls prog 257 #[.agg #[c.cap,c.sent,c.got,c.fin,.slice a c.cells p,.slice b c.words q]] w fun r w' =>
   (∃ v1 v2,r=.returned (.tuple #[.agg #[.int .i64 (p9 c).cap,.int .i64 (p9 c).sent,.int .i64 (p9 c).got,.int .i64 (p9 c).fin,v1,v2],.int .i64 (vX c)])∧aD w' w v1 (p9 c).cells∧aG w' w v2 (p9 c).words)∧Below w w w':=by
 have H1:=aA h1
 have H2:=aA h2
 have Z1:=aA z1
 have Z2:=aA z2
 have n1:c.cells.length≤maxLen:=by unfold maxLen;omega
 have n2:c.words.length≤maxLen:=by unfold maxLen;omega
 clear h1 h2 z1 z2
 by_cases Y:aW c=true
 ·by_cases hf:80≤c.words.length
  ·have a3:c.words.length=80:=by
    have:=Y
    simp [aW,fO] at this
    omega
   have E:=aA (vY Y hf)
   have a8:(80:Int)≤(c.words.length:Int):=by omega
   have a6:Hid ((c.words.length:Int)=80):=aA tO
   clear a3
   go_enter func257,ntmps257
   go_wp2_with fail;refine aK w zB fun H=>?_;refine (jo c a b p q _ (aT H1 H) (aT H2 H) n1 n2).mono ?_;rintro _ J ⟨rfl,m⟩;have X:Below w w J:=bT H m;have L:=m.size;(try simp at L);have I:=And.intro (fun o=>m.cell (p:=⟨w+1,o,none⟩) tS) <| And.intro (fun o=>m.frozen (p:=⟨w+1,o,none⟩) tS) <| And.intro (fun o=>m.cell (p:=⟨w,o,none⟩) tS) <| fun o=>m.frozen (p:=⟨w,o,none⟩) tS;(try simp [go_sem] at I);(try clear y A);(try clear F G);obtain ⟨y,A,F,G⟩:=I;(try clear u);have u:w+1<J.heap.size:=tO;(try clear D);have D:w<J.heap.size:=tO;clear m H
   rw [Y]
   go_wp2_with fail;refine aK w zB fun H=>?_;refine (mU c a b p q _ (aT H1 H) Z1.out (aT H2 H) Z2.out m1 m2).mono ?_;rintro _ K ⟨⟨v1,v2,rfl,M,N⟩,z⟩;have a1:Below w w K:=bT H z;have R:=z.size;(try simp at R);have I:=And.intro (fun o=>z.cell (p:=⟨w+1,o,none⟩) tS) <| And.intro (fun o=>z.frozen (p:=⟨w+1,o,none⟩) tS) <| And.intro (fun o=>z.cell (p:=⟨w,o,none⟩) tS) <| fun o=>z.frozen (p:=⟨w,o,none⟩) tS;(first|simp [go_sem,y,A,F,G,D,u] at I|simp [go_sem,y,F,D,u] at I|simp [go_sem] at I|skip);(try clear y A);(try clear F G);obtain ⟨y,A,F,G⟩:=I;(try clear u);have u:w+1<K.heap.size:=tO;(try clear D);have D:w<K.heap.size:=tO;clear z H
   try simp at M N
   have O1:=aA M
   have O2:=aA N
   obtain ⟨va,vc,rfl,_⟩:=aD.seg M
   obtain ⟨Z,vd,rfl,_⟩:=aG.seg N
   clear M N
   have a7:=a6.out
   go_wp2_with fail
   have M:=O1.out
   have N:=O2.out
   obtain ⟨e1,e2⟩:=E.out
   rw [e1,e2]
   refine bodyPost_ret (v:=.tuple #[.agg #[c.cap,c.sent,c.got,c.fin,.slice va c.cells vc,.slice Z c.words vd],.int .i64 0]) (by simp [results,results257,go_sem, *]) rfl ⟨⟨_,_,rfl,aH (lo:=J) ?_ tO,aH (lo:=J) ?_ tO⟩,by exact zB⟩
   ·exact zO M M
   ·exact zO N N
  ·have E:=aA (vZ Y hf)
   have a8:¬ (80:Int)≤(c.words.length:Int):=by omega
   have a7:(c.words.length:Int)≠80:=by omega
   obtain ⟨i0,aa,ab,ac,ad⟩:=info_parts kL
   go_enter func257,ntmps257
   go_wp2_with fail;refine aK w zB fun H=>?_;refine (jo c a b p q _ (aT H1 H) (aT H2 H) n1 n2).mono ?_;rintro _ J ⟨rfl,m⟩;have X:Below w w J:=bT H m;have L:=m.size;(try simp at L);have I:=And.intro (fun o=>m.cell (p:=⟨w+1,o,none⟩) tS) <| And.intro (fun o=>m.frozen (p:=⟨w+1,o,none⟩) tS) <| And.intro (fun o=>m.cell (p:=⟨w,o,none⟩) tS) <| fun o=>m.frozen (p:=⟨w,o,none⟩) tS;(try simp [go_sem] at I);(try clear y A);(try clear F G);obtain ⟨y,A,F,G⟩:=I;(try clear u);have u:w+1<J.heap.size:=tO;(try clear D);have D:w<J.heap.size:=tO;clear m H
   rw [Y]
   go_wp2_with fail;refine aK w zB fun H=>?_;refine (mU c a b p q _ (aT H1 H) Z1.out (aT H2 H) Z2.out m1 m2).mono ?_;rintro _ K ⟨⟨v1,v2,rfl,M,N⟩,z⟩;have a1:Below w w K:=bT H z;have R:=z.size;(try simp at R);have I:=And.intro (fun o=>z.cell (p:=⟨w+1,o,none⟩) tS) <| And.intro (fun o=>z.frozen (p:=⟨w+1,o,none⟩) tS) <| And.intro (fun o=>z.cell (p:=⟨w,o,none⟩) tS) <| fun o=>z.frozen (p:=⟨w,o,none⟩) tS;(first|simp [go_sem,y,A,F,G,D,u] at I|simp [go_sem,y,F,D,u] at I|simp [go_sem] at I|skip);(try clear y A);(try clear F G);obtain ⟨y,A,F,G⟩:=I;(try clear u);have u:w+1<K.heap.size:=tO;(try clear D);have D:w<K.heap.size:=tO;clear z H
   try simp at M N
   have O1:=aA M
   have O2:=aA N
   obtain ⟨va,vc,rfl,_⟩:=aD.seg M
   obtain ⟨Z,vd,rfl,_⟩:=aG.seg N
   clear M N
   have M:=O1.out
   have N:=O2.out
   have b2:=fun j (hj:(Value.slice Z c.words vd).ownBlock=some j)=>N.lt j hj
   have mw:∀ j,j<J.heap.size∨K.heap.size≤j→some j≠(Value.slice Z c.words vd).ownBlock:=fun j hj e=>by have:=b2 _ e.symm;omega
   have ag:=mw w tO
   have ah:=mw (w+1) tO
   have ai:=mw K tO
   go_wp2_with (at_builtin;refine wpList_append_lies _ rfl _ _ 29 rfl J.heap.size 2 i0 _ 1 8 underlying29 aa ab ac ad rfl (by decide) (.slice Z c.words vd) c.words (ints c.words) rfl (World.ownsRow.alloc (World.ownsRow.alloc N _) _) ⟨K+1,0,none⟩ 1 1 [.int .i64 0] rfl rfl ?c2 (by simp [Value.oneCell']) tO ?c3 ?c4 ?c5 (K+1+1) (by simp) ?_)
   case c2=>have:=cell_one_new (K.alloc (.cells #[c.cap,c.sent,c.got,c.fin,.slice va c.cells vc,.slice Z c.words vd] 31)) (.int .i64 0) 2;simpa using this
   case c3=>unfold maxLen;omega
   case c4=>omega
   case c5=>simp;omega
   intro U q4 w4 o4 T V ae
   have O:K<K.heap.size+1:=by omega
   have a4:=T.size;(try (simp at a4));have I:=And.intro (fun o=>T.cell_far ⟨K,o,none⟩ tS (by assumption)) <| And.intro (fun o=>T.frozen_far ⟨K,o,none⟩ tS (by assumption)) <| And.intro (fun o=>T.cell_far ⟨w+1,o,none⟩ tS (by assumption)) <| And.intro (fun o=>T.frozen_far ⟨w+1,o,none⟩ tS (by assumption)) <| And.intro (fun o=>T.cell_far ⟨w,o,none⟩ tS (by assumption)) <| fun o=>T.frozen_far ⟨w,o,none⟩ tS (by assumption);(first|simp [go_sem,y,A,F,G,D,O,u] at I|simp [go_sem,y,F,D,O,u] at I|simp [go_sem] at I|skip);(try clear a5 a0);(try clear y A);(try clear F G);obtain ⟨a5,a0,y,A,F,G⟩:=I;(try clear O);have O:K<w4.heap.size:=tO;(try clear u);have u:w+1<w4.heap.size:=tO;(try clear D);have D:w<w4.heap.size:=tO
   have p1:aD w4 J (.slice va c.cells vc) c.cells:=((World.ownsRow.alloc (World.ownsRow.alloc M _) _)).kept T (zV M N)
   have p2:aG w4 J (.slice (some ⟨U,0,none⟩) (c.words.length+1) q4) (c.words ++ [0]):=aG.snoc o4
   have a9:∀ j,j<J.heap.size∨(K.heap.size≤j∧j<K.heap.size+1)→(Value.slice (some ⟨U,0,none⟩) (c.words.length+1) q4).ownBlock≠some j:=fun j h1 e=>by
    have e2:U=j:=by simpa [Value.ownBlock] using e
    rcases V with V|V
    ·have:=b2 _ V;omega
    ·omega
   have af:Below w w w4:=iN zB T tS (fun k hk=>by have:=(b2 k hk).1;omega)
   clear o4 T
   go_wp2_with fail
   go_region
   all_goals go_wp2_with fail
   all_goals (obtain ⟨e1,e2⟩:=E.out;rw [e1,e2])
   all_goals refine bodyPost_ret (v:=.tuple #[.agg #[c.cap,c.sent,c.got,c.fin,.slice va c.cells vc,.slice (some ⟨U,0,none⟩) (c.words.length+1) q4],.int .i64 (c.words.length+1)]) (by simp [results,results257,go_sem, *]) rfl ⟨⟨_,_,rfl,aH (lo:=J) ?_ tO,aH (lo:=J) ?_ tO⟩,by exact zB⟩
   all_goals first|(repeat first|with_reducible exact p1|with_reducible refine rQ ?_ _|with_reducible refine qh ?_|((with_reducible first|refine aI ?_ ?_ _|refine dZ ?_ ?_);rotate_left;focus first|(refine own_ne M ?_;(try dsimp only);omega)|(refine dN M ?_;(try dsimp only);omega)))|skip
   all_goals (first|(repeat first|with_reducible exact p2|with_reducible refine rQ ?_ _|with_reducible refine qh ?_|((with_reducible first|refine aI ?_ ?_ _|refine dZ ?_ ?_);rotate_left;focus first|(refine own_ne p2 ?_;(try dsimp only);omega)|(refine dN p2 ?_;(try dsimp only);omega)|exact a9 _ (by (try dsimp only) <;> omega)))|skip)
 ·have a2:aW c=false:=by simpa using Y
  have E:=aA (Ls a2)
  clear Y
  go_enter func257,ntmps257
  go_wp2_with fail;refine aK w zB fun H=>?_;refine (jo c a b p q _ (aT H1 H) (aT H2 H) n1 n2).mono ?_;rintro _ J ⟨rfl,m⟩;have X:Below w w J:=bT H m;have L:=m.size;(try simp at L);have I:=And.intro (fun o=>m.cell (p:=⟨w+1,o,none⟩) tS) <| And.intro (fun o=>m.frozen (p:=⟨w+1,o,none⟩) tS) <| And.intro (fun o=>m.cell (p:=⟨w,o,none⟩) tS) <| fun o=>m.frozen (p:=⟨w,o,none⟩) tS;(try simp [go_sem] at I);(try clear y A);(try clear F G);obtain ⟨y,A,F,G⟩:=I;(try clear u);have u:w+1<J.heap.size:=tO;(try clear D);have D:w<J.heap.size:=tO;clear m H
  rw [a2]
  go_wp2
  rw [E.out.1,E.out.2]
  refine bodyPost_ret (v:=.tuple #[.agg #[Ch.zero.cap,Ch.zero.sent,Ch.zero.got,Ch.zero.fin,.slice none 0 0,.slice none 0 0],.int .i64 0]) (by simp [results,results257,go_sem,Ch.zero, *]) rfl ⟨⟨_,_,rfl,World.ownsRow_nil _ _ _ _,World.ownsRow_nil _ _ _ _⟩,by exact zB⟩
end
end Go.Proofs.YtffhjmepfojhnaaGreat
