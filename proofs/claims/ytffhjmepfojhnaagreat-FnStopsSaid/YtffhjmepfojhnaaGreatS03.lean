/-
  The reference model's copies of lists and of a channel: the same in new memory; lists lie in memory and hold at most 2 ^ 40 elements.
-/
import Derived.Test.YtffhjmepfojhnaaGreatS01
import Derived.IntWalk
import Derived.Laws.CopyOwn
set_option maxRecDepth 100000
set_option maxHeartbeats 1000000
set_option linter.unusedSimpArgs false
set_option linter.unusedVariables false
namespace Go.Proofs.YtffhjmepfojhnaaGreat
open _root_.Go.Proofs.Tryz
section
open Go.RowKit
theorem vK (l:List Int) (b:Option Addr) (q:Nat) (w:World) (h:fD w w b l) (H:b=none→q=0) (T:l.length≤1099511627776) :
  Calls prog 172 #[.slice b l.length q] w fun r w'=>(∃ v,r=.returned v∧aG w' w v l)∧Below w w w':=by
 obtain ⟨I,m,E,F,G⟩:=info_parts kL
 rcases b with _|⟨z,A,J⟩
 ·obtain rfl:=H rfl
  have O:l.length=0:=by rcases h with h|⟨_,_,h,_⟩;exact h;cases h
  obtain rfl:l=[]:=List.eq_nil_of_length_eq_zero O
  go_enter func172,ntmps172
  go_wp2_with (at_builtin;refine wpList_append_own_none rfl _ _ 29 rfl w.heap.size 2 I 1 underlying29 m _ 0 [] rfl (nP _ _ _ _ (Nat.le_refl _)) rfl ?_)
  go_ret
  exact ⟨⟨_,rfl,nP _ _ _ _ (Nat.le_refl _)⟩,by exact zB⟩
 ·have K:Hid (∀ j u,(ints l)[j]?=some u→w.cell? ((⟨z,A,J⟩:Addr).add j)=some u):=by
   rcases h with L|⟨R,U,e,h1,M⟩
   ·obtain rfl:l=[]:=List.eq_nil_of_length_eq_zero L
    intro j u D;simp [ints] at D
   ·simp at e
    obtain ⟨rfl,rfl,rfl⟩:=e
    exact Seg.newsI (.inr ⟨z,A,rfl,h1,M⟩)
  clear h H
  go_enter func172,ntmps172
  go_wp2_with (at_builtin;refine wpList_append_own _ rfl _ _ 29 rfl w.heap.size 2 I _ 1 8 underlying29 m E F G rfl (by decide) _ 0 [] rfl (nP _ _ _ _ (Nat.le_refl _)) ⟨z,A,J⟩ l.length q (ints l) rfl (by simp [ints]) ?c0 (BO l) ?c3 ?c4 ?c5 ?_)
  case c0=>exact fun j u D=>jm (K.out j u D)
  case c3=>unfold maxLen;omega
  case c4=>omega
  case c5=>simp
  intro v V y N _
  go_wp2
  go_ret
  exact ⟨⟨_,rfl,by simpa using y⟩,iN zB N (by simp) (by simp [Value.ownBlock])⟩
theorem yM:(Tryz.prog.info? 93).map (fun i=>(i.zero,i.size,i.bytes))=some (some (.agg #[.int .i64 0,.int .i64 0,.int .i64 0]),3,24):=by kernel_rfl
theorem ry (c:Ch) (a b:Option Addr) (p q:Nat) (w:World) (h1:fA w w a c.cells) (z1:a=none→p=0) (I:fD w w b c.words) (z2:b=none→q=0) (m1:c.cells.length≤1099511627776) (m2:c.words.length≤1099511627776) :
  Calls prog 123 #[.agg #[c.cap,c.sent,c.got,c.fin,.slice a c.cells p,.slice b c.words q]] w fun r w' =>
   (∃ v1 J,r=.returned (.agg #[c.cap,c.sent,c.got,c.fin,v1,J])∧aD w' w v1 c.cells∧aG w' w J c.words)∧Below w w w':=by
 obtain ⟨i0,H,V,X,Y⟩:=info_parts yM
 obtain ⟨cap,sent,got,fin,cells,words⟩:=c
 simp only at *
 have H2:=aA I
 have Z2:=aA z2
 clear I z2
 rcases a with _|⟨M,N,sp⟩
 ·obtain rfl:=z1 rfl
  have hn:cells.length=0:=by rcases h1 with h|⟨_,_,h,_⟩;exact h;cases h
  obtain rfl:cells=[]:=List.eq_nil_of_length_eq_zero hn
  clear h1 z1 hn m1
  go_enter func123,ntmps123
  go_wp2_with (at_builtin;refine wpList_append_own_none rfl _ _ 28 rfl (w.heap.size+1+1) 93 i0 3 underlying28 H _ 0 [] rfl (gJ _ _ _ _ _ (by simp) (by simp)) rfl ?_)
  refine (vK words b q _ ((H2.out.below zB).more (by simp;try omega)) Z2.out m2).mono ?_
  rintro _ L ⟨⟨J,rfl,y⟩,m⟩
  have z:aD L (w+1+1) (.slice (some ⟨w+1+1,0,none⟩) 0 0) []:=own_below (gJ _ _ _ _ _ (by simp) (by simp)) m
  have A:=aH y (lo':=w+1+1) (by simp;try omega)
  obtain ⟨Z,vd,rfl,_⟩:=aG.seg y
  clear y
  have G:=m.size
  simp at G
  have R:Below w w L:=bT zB m
  have:=fun o=>m.cell (p:=⟨w,o,none⟩) (by simp;try omega)
  have:=fun o=>m.cell (p:=⟨w+1,o,none⟩) (by simp;try omega)
  have:=fun o=>m.frozen (p:=⟨w,o,none⟩) (by simp;try omega)
  have:=fun o=>m.frozen (p:=⟨w+1,o,none⟩) (by simp;try omega)
  clear m
  have:w<w.heap.size+1+1:=by omega
  have:w≤w.heap.size+1:=by omega
  go_wp2_with fail
  refine bodyPost_ret (v:=.agg #[.int .i64 cap,.int .i64 sent,.int .i64 got,.int .i64 fin,.slice (some ⟨w+1+1,0,none⟩) 0 0,.slice Z words.length vd]) (by simp [results,results123,go_sem, *]) rfl ⟨⟨_,_,rfl,?_,?_⟩,?_⟩
  ·refine aH (lo:=w+1+1) ?_ tO
   repeat (first|with_reducible exact z|((with_reducible refine aI ?_ ?_ _);rotate_left;(focus exact own_ne z (by (try simp);try omega))))
  ·refine aH (lo:=w+1+1) ?_ tO
   repeat (first|with_reducible exact A|((with_reducible refine aI ?_ ?_ _);rotate_left;(focus exact own_ne A (by (try simp);try omega))))
  ·exact zB
 ·have HN:Hid (∀ j u,(jB cells)[j]?=some u→w.cell? ((⟨M,N,sp⟩:Addr).add j)=some u):=by
   rcases h1 with h0|⟨b',o',e,h1,I⟩
   ·obtain rfl:cells=[]:=List.eq_nil_of_length_eq_zero h0
    intro j u U;simp [jB] at U
   ·simp at e
    obtain ⟨rfl,rfl,rfl⟩:=e
    exact Seg.newsC (.inr ⟨M,N,rfl,h1,I⟩)
  clear h1 z1
  go_enter func123,ntmps123
  go_wp2_with (at_builtin;refine wpList_append_own _ rfl _ _ 28 rfl (w.heap.size+1+1) 93 i0 _ 3 24 underlying28 H V X Y rfl (by decide) _ 0 [] rfl (gJ _ _ _ _ _ (by simp) (by simp;try omega)) ⟨M,N,sp⟩ cells.length p (jB cells) rfl (jO cells) ?c0 (yI cells) ?c3 ?c4 ?c5 ?_)
  case c0=>exact fun j u U=>jm (jm (jm (HN.out j u U)))
  case c3=>unfold maxLen;omega
  case c4=>omega
  case c5=>(simp;try omega)
  intro v K E F _
  simp [Value.ownBlock] at F
  have T:=F.size
  simp at T
  have:=P8 (b:=w) F (by simp;omega) tO
  have:=P8 (b:=w+1) F (by simp) tO
  have:=P9 (b:=w) F (by simp;omega) tO
  have:=P9 (b:=w+1) F (by simp) tO
  have:w<K.heap.size:=by omega
  have:w≤K.heap.size:=by omega
  have O:Below w w K:=iN zB F (by simp;omega) (by simp;omega)
  have D:aD K (w+1+1) v cells:=by simpa using E
  clear E
  obtain ⟨va,vc,rfl,_⟩:=aD.seg D
  go_wp2_with fail
  refine (vK words b q _ ((H2.out.below O).setOther (by simp [World.setCell];omega) (by simp)) Z2.out m2).mono ?_
  rintro _ L ⟨⟨J,rfl,y⟩,m⟩
  have z:=own_below (aI D (p:=⟨w,4,none⟩) (own_ne D (by (try simp);try omega)) (.slice va cells.length vc)) m
  have A:=aH y (lo':=w+1+1) (by simp [World.setCell];omega)
  obtain ⟨Z,vd,rfl,_⟩:=aG.seg y
  clear y
  have G:=m.size
  simp [World.setCell] at G
  have R:Below w w L:=bT zB m
  have:=fun o=>m.cell (p:=⟨w,o,none⟩) (by simp [World.setCell];omega)
  have:=fun o=>m.cell (p:=⟨w+1,o,none⟩) (by simp [World.setCell];omega)
  have:=fun o=>m.frozen (p:=⟨w,o,none⟩) (by simp [World.setCell];omega)
  have:=fun o=>m.frozen (p:=⟨w+1,o,none⟩) (by simp [World.setCell];omega)
  clear m
  have:w<w.heap.size+1+1:=by omega
  have:w≤w.heap.size+1:=by omega
  go_wp2_with fail
  refine bodyPost_ret (v:=.agg #[.int .i64 cap,.int .i64 sent,.int .i64 got,.int .i64 fin,.slice va cells.length vc,.slice Z words.length vd]) (by simp [results,results123,go_sem, *]) rfl ⟨⟨_,_,rfl,?_,?_⟩,?_⟩
  ·refine aH (lo:=w+1+1) ?_ tO
   repeat (first|with_reducible exact z|((with_reducible refine aI ?_ ?_ _);rotate_left;(focus exact own_ne z (by (try simp);try omega))))
  ·refine aH (lo:=w+1+1) ?_ tO
   repeat (first|with_reducible exact A|((with_reducible refine aI ?_ ?_ _);rotate_left;(focus exact own_ne A (by (try simp);try omega))))
  ·exact zB
end
section
open Go.RowKit
theorem tC (c:Ch) (v:Int) (a b:Option Addr) (p q:Nat) (w:World) :
  Calls prog 124 #[.agg #[c.cap,c.sent,c.got,c.fin,.slice a c.cells p,.slice b c.words q],.int .i64 v] w fun r w'=>r=.returned (.bool (kF c v))∧Below w w w':=by
 go_enter func124,ntmps124
 go_wp2_with (go_at_call 121;refine (gQ _ _ _ _).mono ?_;rintro _ _ ⟨rfl,rfl⟩)
 go_ret
 exact ⟨rfl,by exact zB⟩
theorem pK {c:Ch} {v:Int}:kF c v=true↔1≤v∧v≤c.words.length:=by simp [kF,dA]
theorem yN {c:Ch} {v:Int} (h:(aW c && kF c v)=false):-1=iZ c v:=by simp [iZ,h]
theorem EC {c:Ch} {v:Int} (h1:aW c=true) (m:kF c v=true):fJ c v=iZ c v:=by simp [iZ,h1,m]
end
section
open Go.RowKit
theorem yO {c:Ch} {v x:Int} (h:kF c v=false):eY c v x=false:=by simp [eY,h]
theorem pM {c:Ch} {v x:Int} (h:eY c v x=false):dM c v x=c:=by simp [dM,h]
theorem aG.open1 {w:World} {lo:Nat} {v:Value} {l:List Int} (h:aG w lo v l) {i:Nat} (u:i<l.length) :
  ∃ g cap,v=.slice (some ⟨g,0,none⟩) l.length cap∧lo≤g∧g<w.heap.size∧w.cell? ⟨g,i,none⟩=some (.int .i64 (l.getD i 0))∧∀ o,w.frozen? ⟨g,o,none⟩=false:=by
 have r:=h
 rcases h.2 with ⟨_,z⟩|⟨g,cap,q,rfl,y,m,_⟩
 ·omega
 ·refine ⟨g,cap,rfl,y,(Array.getElem?_eq_some_iff.1 m).1,?_,fun o=>by simp [World.frozen?,m]⟩
  have:=r.cells (g:=g) rfl i (.int .i64 (l.getD i 0)) (by simp [ints,List.getD,u])
  rw [← this];congr 1;by_cases e:i=0 <;> simp [Addr.add,e]
theorem aG.set {w:World} {lo g cap:Nat} {l:List Int} (h:aG w lo (.slice (some ⟨g,0,none⟩) l.length cap) l) {i:Nat} (m:i<l.length) (x:Int) :
  aG (w.setCell ⟨g,i,none⟩ (.int .i64 x)) lo (.slice (some ⟨g,0,none⟩) l.length cap) (l.set i x):=by
 have:=jH h i (by rw [vB];exact m) (.int .i64 x)
 unfold aG
 rw [ints_set,List.length_set]
 exact this
theorem dN {w:World} {lo:Nat} {e:TypeId} {k n:Nat} {v:Value} {q:List Value} (h:w.ownsRow lo e k v n q) {b:Nat} (r:w.heap.size≤b):v.ownBlock≠some b:=fun m=>by have:=(h.lt b m).2;omega
theorem aD.ne {w:World} {lo lo':Nat} {v z:Value} {cs:List C3} {l:List Int} (h:aD w lo v cs) (D:aG w lo' z l) (i:Nat) (r:v.ownBlock=some i):z.ownBlock≠some i:=by
 intro m
 rcases h.2 with ⟨rfl,_⟩|⟨g,cap,A,rfl,_,E,_⟩
 ·cases r
 rcases D.2 with ⟨rfl,_⟩|⟨F,u,y,rfl,_,q,_⟩
 ·cases m
 simp [Value.ownBlock] at r m
 subst r m
 rw [E] at q
 simp at q
theorem zV {w:World} {lo lo':Nat} {v m:Value} {cs:List C3} {l:List Int} (h:aD w lo v cs) (r:aG w lo' m l):v.ownBlock=none∨v.ownBlock≠m.ownBlock:=by
 cases e:v.ownBlock with
 | none=>exact .inl rfl
 | some j=>exact .inr fun q=>aD.ne h r j e q.symm
theorem vL (c:Ch) (v x:Int) (a b:Option Addr) (p q:Nat) (w:World) (h1:fA w w a c.cells) (z1:a=none→p=0) (h2:fD w w b c.words) (z2:b=none→q=0) (m1:c.cells.length≤1099511627776) (m2:c.words.length≤1099511627776) :
  Calls prog 72 #[.agg #[c.cap,c.sent,c.got,c.fin,.slice a c.cells p,.slice b c.words q],.int .i64 v,.int .i64 x] w fun r w' =>
   (∃ v1 v2,r=.returned (.tuple #[.agg #[c.cap,c.sent,c.got,c.fin,v1,v2],.bool (eY c v x)])∧aD w' w v1 c.cells∧aG w' w v2 (dM c v x).words)∧Below w w w':=by
 have H1:=aA h1
 have H2:=aA h2
 have Z1:=aA z1
 have Z2:=aA z2
 clear h1 h2 z1 z2
 go_enter func72,ntmps72
 go_wp2_with fail;refine aK w zB fun J=>?_;refine (ry c a b p q _ ((H1.out.below J).more J.size) Z1.out ((H2.out.below J).more J.size) Z2.out m1 m2).mono ?_;rintro _ I ⟨⟨v1,v2,rfl,X,Y⟩,E⟩;have a3:Below w w I:=bT J E;have a5:=E.size;(try simp at a5);have M:=And.intro (fun o=>E.cell (p:=⟨w+1,o,none⟩) tS) <| And.intro (fun o=>E.frozen (p:=⟨w+1,o,none⟩) tS) <| And.intro (fun o=>E.cell (p:=⟨w,o,none⟩) tS) <| fun o=>E.frozen (p:=⟨w,o,none⟩) tS;(try simp [go_sem] at M);(try clear z A);(try clear H K);obtain ⟨z,A,H,K⟩:=M;(try clear u);have u:w+1<I.heap.size:=tO;(try clear G);have G:w<I.heap.size:=tO;clear E J
 try simp at X Y
 obtain ⟨a1,q1,rfl,_⟩:=X.seg
 by_cases hh:kF c v=true
 ·obtain ⟨g1,g2⟩:=pK.1 hh
  obtain ⟨i,rfl⟩:∃ i:Nat,v=(i:Int)+1:=⟨(v - 1).toNat,by omega⟩
  have hi:i<c.words.length:=by omega
  obtain ⟨g,cap,rfl,ae,a4,O,a9⟩:=Y.open1 hi
  obtain ⟨J,bo,rfl,hb,F⟩:∃ b' o,b=some ⟨b',o,none⟩∧b'<w.heap.size∧w.cell? ⟨b',o+i,none⟩=some (.int .i64 (c.words.getD i 0)):=by
   rcases H2.out with h0|⟨b',o',e,h1,h2⟩
   ·omega
   ·exact ⟨b',o',e,h1,by simpa [jT] using h2 i 0 hi tO⟩
  have e:fJ c ((i:Int)+1)=c.words.getD i 0:=by simp [fJ]
  have HE:=aA e
  clear e
  generalize c.words.getD i 0=y at O F HE
  have ac:(0:Int)≤(i:Int):=by omega
  have ad:(i:Int)<(c.words.length:Int):=by omega
  have a6:=(a3.cell (p:=⟨J,bo+i,none⟩) hb).trans F
  go_wp2_with fail;refine aK w zB fun J=>?_;refine aK I zB fun bk=>?_;refine (tC c _ a _ p q _).mono ?_;rintro _ U ⟨rfl,m⟩;have a0:Below w w U:=bT J m;have R:=m.size;(try simp at R);have M:=And.intro (fun o=>m.cell (p:=⟨I,o,none⟩) tS) <| And.intro (fun o=>m.frozen (p:=⟨I,o,none⟩) tS) <| And.intro (fun o=>m.cell (p:=⟨w+1,o,none⟩) tS) <| And.intro (fun o=>m.frozen (p:=⟨w+1,o,none⟩) tS) <| And.intro (fun o=>m.cell (p:=⟨w,o,none⟩) tS) <| fun o=>m.frozen (p:=⟨w,o,none⟩) tS;(first|simp [go_sem,z,A,H,K,G,u] at M|simp [go_sem,z,H,G,u] at M|simp [go_sem] at M|skip);(try clear V N);(try clear z A);(try clear H K);obtain ⟨V,N,z,A,H,K⟩:=M;(try clear T);have T:I<U.heap.size:=tO;(try clear u);have u:w+1<U.heap.size:=tO;(try clear G);have G:w<U.heap.size:=tO;have D:Below I I U:=bT bk m;clear m J bk
  have p1:=own_below X D
  have p2:=own_below Y D
  have a7:=(D.cell (p:=⟨g,i,none⟩) a4).trans O
  have ab:=fun o=>(D.frozen (p:=⟨g,o,none⟩) a4).trans (a9 o)
  have a8:=(a0.cell (p:=⟨J,bo+i,none⟩) hb).trans F
  have af:I.heap.size≠g:=by omega
  by_cases ht:eY c ((i:Int)+1) x=true
  ·have Z:=ht
   unfold eY at Z
   rw [HE.out] at Z
   simp [hh] at Z
   obtain ⟨rfl,aa⟩:=Z
   have HW:Hid ((dM c ((i:Int)+1) x).words=c.words.set i x):=by unfold dM;rw [if_pos ht];simp [Hid]
   have HT:=aA ht
   clear ht HE
   go_wp2_with (go_at_call 121;refine (gQ _ _ _ _).mono ?_;rintro _ _ ⟨rfl,rfl⟩)
   rw [HT.out,HW.out]
   refine bodyPost_ret (v:=.tuple #[.agg #[c.cap,c.sent,c.got,c.fin,.slice a1 c.cells q1,.slice (some ⟨g,0,none⟩) c.words cap],.bool true]) (by simp [results,results72,go_sem, *]) rfl ⟨⟨_,_,rfl,aH (lo:=w+1+1) ?_ tO,aH (lo:=w+1+1) ?_ tO⟩,by exact zB⟩
   ·(repeat first|with_reducible exact p1|with_reducible refine rQ ?_ _|with_reducible refine qh ?_|((with_reducible first|refine aI ?_ ?_ _|refine dZ ?_ ?_);rotate_left;focus first|(refine own_ne X ?_;(try dsimp only);omega)|(refine dN X ?_;(try dsimp only);omega)|exact fun h=>aD.ne X Y _ h rfl))
   ·have P2:=aG.set p2 hi x
    exact zO P2 Y
  ·have L:eY c ((i:Int)+1) x=false:=by simpa using ht
   have HT:=aA L
   have HW:=aA (pM L)
   unfold eY at L
   rw [HE.out] at L
   simp [hh] at L
   clear HE ht
   by_cases hy:y=0
   ·subst hy
    have aa:=L rfl
    clear L
    go_wp2_with (go_at_call 121;refine (gQ _ _ _ _).mono ?_;rintro _ _ ⟨rfl,rfl⟩)
    rw [HT.out,HW.out]
    refine bodyPost_ret (v:=.tuple #[.agg #[c.cap,c.sent,c.got,c.fin,.slice a1 c.cells q1,.slice (some ⟨g,0,none⟩) c.words cap],.bool false]) (by simp [results,results72,go_sem, *]) rfl ⟨⟨_,_,rfl,aH (lo:=w+1+1) ?_ tO,aH (lo:=w+1+1) ?_ tO⟩,by exact zB⟩
    ·exact zO p1 X
    ·exact zO p2 Y
   ·have ag:(y != 0)=true:=by simpa using hy
    clear L hy
    go_wp2_with (go_at_call 121;refine (gQ _ _ _ _).mono ?_;rintro _ _ ⟨rfl,rfl⟩)
    rw [HT.out,HW.out]
    refine bodyPost_ret (v:=.tuple #[.agg #[c.cap,c.sent,c.got,c.fin,.slice a1 c.cells q1,.slice (some ⟨g,0,none⟩) c.words cap],.bool false]) (by simp [results,results72,go_sem, *]) rfl ⟨⟨_,_,rfl,aH (lo:=w+1+1) ?_ tO,aH (lo:=w+1+1) ?_ tO⟩,by exact zB⟩
    ·exact zO p1 X
    ·exact zO p2 Y
 ·have L:=yO (x:=x) (by simpa using hh)
  have HT:=aA L
  have HW:=aA (pM L)
  clear L
  obtain ⟨a2,q2,rfl,_⟩:=Y.seg
  go_wp2_with fail;refine aK w zB fun J=>?_;refine aK I zB fun bk=>?_;refine (tC c _ a b p q _).mono ?_;rintro _ U ⟨rfl,m⟩;have a0:Below w w U:=bT J m;have R:=m.size;(try simp at R);have M:=And.intro (fun o=>m.cell (p:=⟨I,o,none⟩) tS) <| And.intro (fun o=>m.frozen (p:=⟨I,o,none⟩) tS) <| And.intro (fun o=>m.cell (p:=⟨w+1,o,none⟩) tS) <| And.intro (fun o=>m.frozen (p:=⟨w+1,o,none⟩) tS) <| And.intro (fun o=>m.cell (p:=⟨w,o,none⟩) tS) <| fun o=>m.frozen (p:=⟨w,o,none⟩) tS;(first|simp [go_sem,z,A,H,K,G,u] at M|simp [go_sem,z,H,G,u] at M|simp [go_sem] at M|skip);(try clear V N);(try clear z A);(try clear H K);obtain ⟨V,N,z,A,H,K⟩:=M;(try clear T);have T:I<U.heap.size:=tO;(try clear u);have u:w+1<U.heap.size:=tO;(try clear G);have G:w<U.heap.size:=tO;have D:Below I I U:=bT bk m;clear m J bk
  have p1:=own_below X D
  have p2:=own_below Y D
  go_wp2
  rw [HT.out,HW.out]
  refine bodyPost_ret (v:=.tuple #[.agg #[c.cap,c.sent,c.got,c.fin,.slice a1 c.cells q1,.slice a2 c.words q2],.bool false]) (by simp [results,results72,go_sem, *]) rfl ⟨⟨_,_,rfl,aH (lo:=w+1+1) ?_ tO,aH (lo:=w+1+1) ?_ tO⟩,by exact zB⟩
  ·exact zO p1 X
  ·exact zO p2 Y
end
section
def pO (c:Ch) (h:Ha):St:=if h.seen == 3 then j6 c h 5 (cellAt c h.cell).t { h with pos:=13 } else gX c h
def eF (c:Ch) (h:Ha):St:=if bJ c h 9 15 2 && h.pos == 12 then pO c h else bL c h
def nI (c:Ch) (h:Ha):St:=if h.seen == 3 then lH c h 6 (cellAt c h.grow).t { h with pos:=20 } else iH c h
def dQ (c:Ch) (h:Ha):St:=if bJ c h 16 22 2 && h.pos == 19 then nI c h else bP c h
def iO (c:Ch) (h:Ha):St :=
 if dA h.pos 1 8 then bI c h else if dA h.pos 9 15 then eF c h else if dA h.pos 16 22 then dQ c h else bV c h
def uX (c:Ch) (st wt:Int) (y z:Ha):St:=if bQ c y.cell y.seen st wt then (bK c y.cell y.seen st wt,y,true) else (c,z,true)
end
section
open Go.RowKit
theorem ED {w:World} {g n:Nat} {x:Option Obj} (h:w.heap[g]?=x):(w.drewN n).heap[g]?=x:=h
theorem nk (X m:Int) (q:0≤m) (h1:m<2147483648):0≤bits .and .i64 X m∧bits .and .i64 X m≤m:=by
 obtain ⟨k,rfl⟩:=Int.eq_ofNat_of_zero_le q
 have r:(BitVec.ofInt 64 (k:Int)).toNat=k:=by
  rw [BitVec.toNat_ofInt];simp;omega
 have u:(BitVec.ofInt 64 X &&& BitVec.ofInt 64 (k:Int)).toNat≤k:=by
  rw [BitVec.toNat_and,r];exact Nat.and_le_right
 have e:bits .and .i64 X (k:Int)=((BitVec.ofInt 64 X &&& BitVec.ofInt 64 (k:Int)).toNat:Int):=by
  show IntKind.i64.wrap ((BitVec.ofInt 64 X &&& BitVec.ofInt 64 (k:Int)).toNat:Int)=_
  refine IntWalk.i64_in _ ?_
  omega
 rw [e];omega
def DS (w:World) (B g:Nat):Prop:=∃ (a:Option Addr) (n cap i:Nat) (h:Int) (bs:Nat→Int),
 w.heap[g]?=some (.cells #[.slice a n cap,.int .i64 i,.int .i64 h] 147 (0,0))∧i≤n∧n≤4096∧B≤g∧(∀ j,0≤bs j∧bs j≤255)∧Seg w B a n 1 (fun j _=>.int .u8 (bs j))
def Er (w:World) (B g:Nat) (a:Option Addr) (n cap:Nat):Prop:=∃ (i:Nat) (h:Int) (bs:Nat→Int),
 w.heap[g]?=some (.cells #[.slice a n cap,.int .i64 i,.int .i64 h] 147 (0,0))∧i≤n∧n≤4096∧B≤g∧(∀ j,0≤bs j∧bs j≤255)∧Seg w B a n 1 (fun j _=>.int .u8 (bs j))
theorem Er.ds {w:World} {B g n cap:Nat} {a:Option Addr} (h:Er w B g a n cap):DS w B g:=⟨a,n,cap,h⟩
theorem DS.dsx {w:World} {B g:Nat} (h:DS w B g):∃ a n cap,Er w B g a n cap:=h
theorem Er.cell0 {w:World} {B g n cap:Nat} {a:Option Addr} (h:Er w B g a n cap):w.cell? ⟨g,0,none⟩=some (.slice a n cap)∧n≤4096:=by
 obtain ⟨i,h,bs,q,_,m,_⟩:=h
 exact ⟨cell_of_row w g 0 _ _ _ q,m⟩
theorem DS.lt {w:World} {B g:Nat} (h:DS w B g):g<w.heap.size:=by
 obtain ⟨a,n,cap,i,h,bs,m,_⟩:=h
 exact (Array.getElem?_eq_some_iff.1 m).1
theorem DS.le {w:World} {B g:Nat} (h:DS w B g):B≤g:=by
 obtain ⟨a,n,cap,i,h,bs,q,_,_,m,_⟩:=h
 exact m
theorem DS.keep {w w':World} {B g:Nat} (h:DS w B g) (e:w'.heap[g]?=w.heap[g]?) (k:Below B w w'):DS w' B g:=by
 obtain ⟨a,n,cap,i,h,bs,y,h1,m,q,r,u⟩:=h
 exact ⟨a,n,cap,i,h,bs,e.trans y,h1,m,q,r,u.below k⟩
theorem DS.alloc {w:World} {B g:Nat} {o:Obj} (h:DS w B g):DS (w.alloc o) B g:=h.keep (Below.heap_alloc w o g h.lt) ((Below.refl _ _).alloc (by have:=h.lt;have:=h.le;omega) o)
theorem DS.drew {w:World} {B g:Nat} (h:DS w B g):DS w.drew B g:=h
theorem DS.setCell {w:World} {B g:Nat} {p:Addr} {u:Value} (h:DS w B g) (hp:B≤p.block) (m:g≠p.block):DS (w.setCell p u) B g:=h.keep (Below.heap_setCell w p u g m) ((Below.refl _ _).setCell hp u)
theorem zD {w:World} {B g:Nat} (h:DS w B g:=by (repeat (first|with_reducible assumption|with_reducible refine DS.alloc ?_|with_reducible refine DS.drew ?_|((with_reducible refine DS.setCell ?_ ?_ ?_);rotate_left;(focus ((try simp);(try omega)));(focus ((try simp);(try omega))))))):DS w B g:=h
theorem DS.below {w w':World} {B g:Nat} (h:DS w B g) (k:Below w w w'):DS w' B g:=h.keep (k.block g h.lt) (k.mono (by have:=h.lt;have:=h.le;omega))
theorem iK {w:World} {g:Nat} {cs:Array Value} {t:TypeId} (h:w.heap[g]?=some (.cells cs t (0,0))) (j:Nat) (u:Value):(w.setCell ⟨g,j,none⟩ u).heap[g]?=some (.cells (cs.setIfInBounds j u) t (0,0)):=by
 simp [World.setCell,Array.getElem?_modify,h]
theorem dH {w:World} {g:Nat} {cs:Array Value} {t:TypeId} (h:w.heap[g]?=some (.cells cs t (0,0))) (o:Nat):w.frozen? ⟨g,o,none⟩=false:=by
 simp [World.frozen?,h]
def tF (m:Int) (r:Ending):Prop:=∃ x:Int,r=.returned (.int .i64 x)∧0≤x∧x≤m
theorem BZ (B g n cap i:Nat) (a:Option Addr) (h:Int) (bs:Nat→Int) (w:World)
  (m:w.heap[g]?=some (.cells #[.slice a n cap,.int .i64 i,.int .i64 h] 147 (0,0))) (T:i≤n) (M:n≤4096) (E:B≤g) (u:∀ j,0≤bs j∧bs j≤255) (F:Hid (Seg w B a n 1 (fun j _=>.int .u8 (bs j)))) :
  Calls prog 115 #[.pointer (some ⟨g,0,none⟩)] w fun r w'=>tF 255 r∧Er w' B g a n cap∧Gr g w w':=by
 have c0:=cell_of_row w g 0 _ _ _ m
 have N:=cell_of_row w g 1 _ _ _ m
 have c2:=cell_of_row w g 2 _ _ _ m
 have f0:=dH m
 have X:g<w.heap.size:=(Array.getElem?_eq_some_iff.1 m).1
 simp at c0 N c2
 have I:=aA m
 have HB:=aA u
 clear m u
 by_cases G:i<n
 ·obtain h0|⟨b,o,rfl,hb,K⟩:=F.out
  ·omega
  have J:=K i 0 G tO
  have q:=HB.out i
  simp only [Nat.add_zero,Nat.mul_one] at J
  clear K
  generalize bs i=y at J q
  obtain ⟨Y,Z⟩:=q
  have O:b≠g:=by omega
  have R:¬ g=b:=by omega
  have U:(0:Int)≤(i:Int):=by omega
  have V:(i:Int)<(n:Int):=by omega
  go_enter func115,ntmps115
  go_wp2
  generalize wrap64 (wrap64 (h*6364136223846793005)+1442695040888963407)=H
  go_quiet (fail)
  go_wp2
  have z:=nk (bits BinOp.xor IntKind.i64 (H / 8589934592) (H / 35184372088832)) 255 tO tO
  generalize bits BinOp.and IntKind.i64 (bits BinOp.xor IntKind.i64 (H / 8589934592) (H / 35184372088832)) 255=x at z
  obtain ⟨A,D⟩:=z
  go_quiet (fail)
  go_wp2
  go_quiet (fail)
  have hz:=nk (IntKind.i64.wrap (x+y)) 255 tO tO
  have hz':=nk (x+y) 255 tO tO
  go_wp2
  go_ret
  exact ⟨⟨_,rfl,hz'.1,hz'.2⟩,⟨i+1,H,bs,by simpa using iK (ED (iK I.out 2 _)) 1 _,by omega,M,E,HB.out,F.out.below (by repeat (first|exact Below.refl _ _|refine Below.setCell ?_ E _|refine Qj ?_ _))⟩,by repeat (first|exact gR _ _|refine gS ?_ (.inl rfl)|refine Qi ?_ _)⟩
 ·have L:¬ (i:Int)<(n:Int):=by omega
  go_enter func115,ntmps115
  go_wp2
  generalize wrap64 (wrap64 (h*6364136223846793005)+1442695040888963407)=H
  go_quiet (fail)
  go_wp2
  have z:=nk (bits BinOp.xor IntKind.i64 (H / 8589934592) (H / 35184372088832)) 255 tO tO
  generalize bits BinOp.and IntKind.i64 (bits BinOp.xor IntKind.i64 (H / 8589934592) (H / 35184372088832)) 255=x at z
  obtain ⟨A,D⟩:=z
  go_quiet (fail)
  go_wp2
  go_ret
  exact ⟨⟨x,rfl,A,D⟩,⟨i,H,bs,by simpa using iK I.out 2 _,T,M,E,HB.out,F.out.below (Qj (Qj ((Below.refl _ _).setCell E _) _) _)⟩,Qi (Qi (gS (gR _ _) (.inl rfl)) _) _⟩
theorem pQ (B g n cap:Nat) (a:Option Addr) (w:World) (h:Er w B g a n cap):Calls prog 115 #[.pointer (some ⟨g,0,none⟩)] w fun r w'=>tF 255 r∧Er w' B g a n cap∧Gr g w w':=by
 obtain ⟨i,h,bs,z,h1,m,q,u,y⟩:=h
 exact BZ B g n cap i a h bs w z h1 m q u (aA y)
theorem nu (x:Int) {n:Int} (m:0<n):0≤x % n∧x % n≤n - 1:=by
 have:=Int.emod_nonneg x (show n≠0 by omega)
 have:=Int.emod_lt_of_pos x m
 omega
theorem yP (B g A cap:Nat) (a:Option Addr) (n:Int) (w:World) (h:Er w B g a A cap) (D:0<n) (M:n≤1000000):Calls prog 66 #[.pointer (some ⟨g,0,none⟩),.int .i64 n] w fun r w'=>tF (n - 1) r∧Er w' B g a A cap∧Gr g w w':=by
 by_cases hs:n≤256
 ·go_enter func66,ntmps66
  go_wp2_with fail
  refine (pQ B g A cap a _ h).mono ?_
  rintro r X ⟨⟨x,rfl,K,L⟩,m,q⟩
  go_wp2
  go_ret
  exact ⟨⟨_,rfl,(nu _ D).1,(nu _ D).2⟩,m,q⟩
 ·go_enter func66,ntmps66
  go_wp2_with fail
  refine (pQ B g A cap a _ h).mono ?_
  rintro r X ⟨⟨x,rfl,K,L⟩,m,q⟩
  go_wp2_with fail
  refine (pQ B g A cap a _ m).mono ?_
  rintro r Y ⟨⟨y,rfl,R,T⟩,E,H⟩
  go_wp2_with fail
  refine (pQ B g A cap a _ E).mono ?_
  rintro r Z ⟨⟨z,rfl,U,V⟩,F,I⟩
  go_wp2_with fail
  refine (pQ B g A cap a _ F).mono ?_
  rintro r w4 ⟨⟨u,rfl,N,O⟩,G,J⟩
  go_wp2
  go_ret
  exact ⟨⟨_,rfl,(nu _ D).1,(nu _ D).2⟩,G,gT (gT (gT q H) I) J⟩
theorem eG (B g:Nat) (n:Int) (w:World) (h:DS w B g) (y:0<n) (m:n≤1000000):Calls prog 66 #[.pointer (some ⟨g,0,none⟩),.int .i64 n] w fun r w'=>tF (n - 1) r∧DS w' B g∧Gr g w w':=by
 obtain ⟨a,z,cap,h⟩:=h.dsx
 exact (yP B g z cap a n w h y m).mono fun _ _ ⟨h1,q,u⟩=>⟨h1,q.ds,u⟩
def Qn (r:Ending):Prop:=∃ b:Bool,r=.returned (.bool b)
def PE (r:Ending):Prop:=∃ x:Int,r=.returned (.int .i64 x)
def Qo (lo hi:Int) (r:Ending):Prop:=∃ x:Int,r=.returned (.int .i64 x)∧lo≤x∧x≤hi
theorem iL (B g:Nat) (n:Int) (w:World) (h:DS w B g) (y:0<n) (u:n≤1000000):Calls prog 65 #[.pointer (some ⟨g,0,none⟩),.int .i64 n] w fun r w'=>Qn r∧DS w' B g∧Gr g w w':=by
 go_enter func65,ntmps65
 go_wp2_with fail
 refine (eG B g n _ h y u).mono ?_
 rintro r D ⟨⟨x,rfl,z,A⟩,m,q⟩
 go_wp2
 go_ret
 exact ⟨⟨_,rfl⟩,m,q⟩
theorem kP (B g:Nat) (lo m:Int) (w:World) (h:DS w B g) (h1:-1000000≤lo) (A:lo≤m) (D:m - lo<1000000) (E:m≤1000000):Calls prog 116 #[.pointer (some ⟨g,0,none⟩),.int .i64 lo,.int .i64 m] w fun r w'=>Qo lo m r∧DS w' B g∧Gr g w w':=by
 go_enter func116,ntmps116
 go_wp2_with fail
 refine (eG B g (m - lo+1) _ h tO tO).mono ?_
 rintro r F ⟨⟨x,rfl,y,z⟩,q,u⟩
 go_wp2
 go_ret
 exact ⟨⟨lo+x,rfl,by omega,by omega⟩,q,u⟩
theorem yQ (a b:Int) (w:World):Calls prog 186 #[.int .i64 a,.int .i64 b] w fun r w'=>r=.returned (.int .i64 (if a<b then a else b))∧w=w':=by
 by_cases h:a<b
 ·rw [if_pos h]
  go_enter func186,ntmps186
  go_wp2
  go_ret
  exact ⟨rfl,rfl⟩
 ·rw [if_neg h]
  go_enter func186,ntmps186
  go_wp2
  go_ret
  exact ⟨rfl,rfl⟩
theorem II (B g:Nat) (w:World) (h:DS w B g):Calls prog 187 #[.pointer (some ⟨g,0,none⟩)] w fun r w'=>PE r∧DS w' B g∧Gr g w w':=by
 have A:=h.lt
 go_enter func187,ntmps187
 go_wp2_with fail
 refine (eG B g 10 _ h.alloc tO tO).mono ?_
 rintro r y ⟨⟨x,rfl,u,D⟩,q,m⟩
 obtain ⟨k,rfl⟩:=Int.eq_ofNat_of_zero_le u
 have E:k<10:=by omega
 have G:w≤y.heap.size:=Nat.le_trans (by simp) m.size
 have z:∃ v:Int,y.cell? ⟨w,k,none⟩=some (.int .i64 v):=by
  rw [kT m (by simp) tO]
  have:k=0∨k=1∨k=2∨k=3∨k=4∨k=5∨k=6∨k=7∨k=8∨k=9:=by omega
  rcases this with rfl|rfl|rfl|rfl|rfl|rfl|rfl|rfl|rfl|rfl <;> simp
 obtain ⟨v,F⟩:=z
 go_wp2
 go_ret
 exact ⟨⟨_,rfl⟩,q,gT (gA (gR _ _)) m⟩
theorem lL (B g:Nat) (n:Int) (w:World) (h:DS w B g) (Z:0≤n) (V:n<1000000):Calls prog 164 #[.pointer (some ⟨g,0,none⟩),.int .i64 n] w fun r w'=>PE r∧DS w' B g∧Gr g w w':=by
 have R:=h.lt
 go_enter func164,ntmps164
 go_wp2_with fail
 refine (iL B g 10 _ h tO tO).mono ?_
 rintro r w1 ⟨⟨x,rfl⟩,E,F⟩
 have N:=E.lt
 cases x
 ·go_wp2_with fail
  refine (iL B g 2 _ E tO tO).mono ?_
  rintro r L ⟨⟨y,rfl⟩,u,D⟩
  cases y
  ·go_wp2_with fail
   refine (eG B g _ _ u tO tO).mono ?_
   rintro r J ⟨⟨z,rfl,H,I⟩,A,q⟩
   go_wp2
   go_ret
   exact ⟨⟨_,rfl⟩,A,gT (gT F D) q⟩
  ·go_wp2_with fail
   refine (yQ _ _ _).mono ?_
   rintro _ _ ⟨rfl,rfl⟩
   have K:0≤(if n<4 then n else 4)∧(if n<4 then n else 4)≤4:=by split <;> omega
   generalize (if n<4 then n else 4)=m at K
   obtain ⟨T,U⟩:=K
   go_wp2_with fail
   refine (eG B g _ _ u tO tO).mono ?_
   rintro r J ⟨⟨z,rfl,H,I⟩,A,q⟩
   go_wp2
   go_ret
   exact ⟨⟨_,rfl⟩,A,gT (gT F D) q⟩
 ·go_wp2_with fail
  refine (II B g _ E).mono ?_
  rintro r L ⟨⟨y,rfl⟩,u,D⟩
  have O:=u.lt
  go_wp2_with fail
  refine (eG B g 4 _ u.alloc tO tO).mono ?_
  rintro r J ⟨⟨x,rfl,G,X⟩,A,q⟩
  obtain ⟨k,rfl⟩:=Int.eq_ofNat_of_zero_le G
  have Y:k<4:=by omega
  have M:∃ v:Int,J.cell? ⟨L,k,none⟩=some (.int .i64 v):=by
   rw [kT q (by simp) tO]
   have:k=0∨k=1∨k=2∨k=3:=by omega
   rcases this with rfl|rfl|rfl|rfl <;> simp
  obtain ⟨v,hv⟩:=M
  go_wp2
  go_ret
  exact ⟨⟨_,rfl⟩,A,gT (gA (gT F D)) q⟩
end
section
open Go.RowKit
theorem IJ (B n cap:Nat) (a:Option Addr) (bs:Nat→Int) (w:World) (D:B≤w.heap.size) (F:n≤4096) (q:∀ j,0≤bs j∧bs j≤255) (h:Seg w B a n 1 (fun j _=>.int .u8 (bs j))) :
  Calls prog 63 #[.slice a n cap] w fun r w'=>∃ g,r=.returned (.pointer (some ⟨g,0,none⟩))∧DS w' B g∧w.heap.size≤g∧Below w w w':=by
 have z:=aA h
 have HB:=aA q
 clear h q
 go_enter func63,ntmps63
 go_wp2
 go_loop [3,4] (fun h i=>∃ (H:Int) (k:Nat),k≤n∧i=.int .i64 k∧h=.int .i64 H) (fun _ i=>n - (intOf i).toNat)
 case atStart=>exact ⟨_,0,Nat.zero_le _,rfl,rfl⟩
 case round =>
  obtain ⟨H,k,L,rfl,rfl⟩:=hrel
  by_cases u:k<n
  ·obtain J|⟨b,o,rfl,K,E⟩:=z.out
   ·omega
   have A:=E k 0 u tO
   have m:=HB.out k
   simp only [Nat.add_zero,Nat.mul_one] at A
   clear E
   generalize bs k=y at A m
   obtain ⟨G,I⟩:=m
   go_wp2
   go_round
   case rel=>exact ⟨_,k+1,by omega,by go_num,rfl⟩
   case measure=>simp [intOf];omega
  ·have:k=n:=by omega
   subst this
   go_wp2
   go_ret
   exact ⟨_,rfl,⟨a,k,cap,0,_,bs,heap_alloc_new w _,by omega,F,D,HB.out,z.out.below ((Below.refl _ _).alloc D _)⟩,Nat.le_refl _,(Below.refl _ _).alloc (Nat.le_refl _) _⟩
def Qp (r:Ending):Prop:=∃ s e t:Int,r=.returned (.agg #[.int .i64 s,.int .i64 e,.int .i64 t])
theorem vM (B g:Nat) (w:World) (hd:DS w B g):Calls prog 188 #[.pointer (some ⟨g,0,none⟩)] w fun r w'=>Qp r∧DS w' B g∧Gr g w w':=by
 have hl:=hd.lt
 have ac:=hd.le
 go_enter func188,ntmps188
 go_wp2_with fail;refine (eG B g 11  _ zD  tO tO).mono ?_;rintro _ w1 ⟨⟨x1,rfl,_,_⟩,L,E⟩;have a2:Gr g w w1:=gT lh E;have a7:=L.lt;have T:=E.size;(try (simp at T));have:=kT E (b:=w) ((by ((try simp);(try omega)))) tO;have:=lF E (b:=w) ((by ((try simp);(try omega)))) tO;have:w<w1.heap.size:=tO;have:w≤w1.heap.size:=tO;have:w≤w1.heap.size+1:=tO
 go_wp2_with fail;refine (eG B g 20  _ zD  tO tO).mono ?_;rintro _ w2 ⟨⟨x2,rfl,_,_⟩,M,F⟩;have a3:Gr g w w2:=gT lh F;have a8:=M.lt;have U:=F.size;(try (simp at U));have:=kT F (b:=w) ((by ((try simp);(try omega)))) tO;have:=lF F (b:=w) ((by ((try simp);(try omega)))) tO;have:w<w2.heap.size:=tO;have:w≤w2.heap.size:=tO;have:w≤w2.heap.size+1:=tO
 go_wp2_with fail;refine (eG B g 4  _ zD  tO tO).mono ?_;rintro _ q ⟨⟨x3,rfl,_,_⟩,N,G⟩;have a4:Gr g w q:=gT lh G;have a9:=N.lt;have V:=G.size;(try (simp at V));have:=kT G (b:=w) ((by ((try simp);(try omega)))) tO;have:=lF G (b:=w) ((by ((try simp);(try omega)))) tO;have:w<q.heap.size:=tO;have:w≤q.heap.size:=tO;have:w≤q.heap.size+1:=tO
 go_wp2_with fail;refine (iL B g 5  _ zD  tO tO).mono ?_;rintro _ J ⟨⟨y4,rfl⟩,O,y⟩;have a5:Gr g w J:=gT lh y;have aa:=O.lt;have X:=y.size;(try (simp at X));have:=kT y (b:=w) ((by ((try simp);(try omega)))) tO;have:=lF y (b:=w) ((by ((try simp);(try omega)))) tO;have:w<J.heap.size:=tO;have:w≤J.heap.size:=tO;have:w≤J.heap.size+1:=tO;have:=kT y (b:=q) ((by ((try simp);(try omega)))) tO;have:=lF y (b:=q) ((by ((try simp);(try omega)))) tO;have:q<J.heap.size:=tO;have:q≤J.heap.size:=tO;have:q≤J.heap.size+1:=tO
 cases y4
 ·go_wp2
  refine bodyPost_ret (v:=.agg #[.int .i64 x1,.int .i64 x2,.int .i64 x3]) (by simp [results,results188,go_sem, *]) rfl ⟨⟨_,_,_,rfl⟩,?_,?_⟩
  ·exact zD
  ·exact lh
 ·go_wp2_with fail;refine (eG B g 3  _ zD  tO tO).mono ?_;rintro _ K ⟨⟨x5,rfl,a0,a1⟩,R,z⟩;have a6:Gr g w K:=gT lh z;have ab:=R.lt;have Y:=z.size;(try (simp at Y));have:=kT z (b:=w) ((by ((try simp);(try omega)))) tO;have:=lF z (b:=w) ((by ((try simp);(try omega)))) tO;have:w<K.heap.size:=tO;have:w≤K.heap.size:=tO;have:w≤K.heap.size+1:=tO;have:=kT z (b:=q) ((by ((try simp);(try omega)))) tO;have:=lF z (b:=q) ((by ((try simp);(try omega)))) tO;have:q<K.heap.size:=tO;have:q≤K.heap.size:=tO;have:q≤K.heap.size+1:=tO
  have hx:x5=0∨x5=1∨x5=2:=by omega
  clear a0 a1
  rcases hx with rfl|rfl|rfl
  ·go_wp2_with fail;refine (kP B g (-1) 11  _ zD  tO tO tO tO).mono ?_;rintro _ u ⟨⟨Z,rfl,_,_⟩,A,m⟩;have H:Gr g w u:=gT lh m;have I:=A.lt;have D:=m.size;(try (simp at D));have:=kT m (b:=w) ((by ((try simp);(try omega)))) tO;have:=lF m (b:=w) ((by ((try simp);(try omega)))) tO;have:w<u.heap.size:=tO;have:w≤u.heap.size:=tO;have:w≤u.heap.size+1:=tO;have:=kT m (b:=q) ((by ((try simp);(try omega)))) tO;have:=lF m (b:=q) ((by ((try simp);(try omega)))) tO;have:q<u.heap.size:=tO;have:q≤u.heap.size:=tO;have:q≤u.heap.size+1:=tO
   go_wp2
   refine bodyPost_ret (v:=.agg #[.int .i64 Z,.int .i64 x2,.int .i64 x3]) (by simp [results,results188,go_sem, *]) rfl ⟨⟨_,_,_,rfl⟩,?_,?_⟩
   ·exact zD
   ·exact lh
  ·go_wp2_with fail;refine (lL B g 999  _ zD  tO tO).mono ?_;rintro _ u ⟨⟨Z,rfl⟩,A,m⟩;have H:Gr g w u:=gT lh m;have I:=A.lt;have D:=m.size;(try (simp at D));have:=kT m (b:=w) ((by ((try simp);(try omega)))) tO;have:=lF m (b:=w) ((by ((try simp);(try omega)))) tO;have:w<u.heap.size:=tO;have:w≤u.heap.size:=tO;have:w≤u.heap.size+1:=tO;have:=kT m (b:=q) ((by ((try simp);(try omega)))) tO;have:=lF m (b:=q) ((by ((try simp);(try omega)))) tO;have:q<u.heap.size:=tO;have:q≤u.heap.size:=tO;have:q≤u.heap.size+1:=tO
   go_wp2
   refine bodyPost_ret (v:=.agg #[.int .i64 x1,.int .i64 Z,.int .i64 x3]) (by simp [results,results188,go_sem, *]) rfl ⟨⟨_,_,_,rfl⟩,?_,?_⟩
   ·exact zD
   ·exact lh
  ·go_wp2_with fail;refine (lL B g 80  _ zD  tO tO).mono ?_;rintro _ u ⟨⟨Z,rfl⟩,A,m⟩;have H:Gr g w u:=gT lh m;have I:=A.lt;have D:=m.size;(try (simp at D));have:=kT m (b:=w) ((by ((try simp);(try omega)))) tO;have:=lF m (b:=w) ((by ((try simp);(try omega)))) tO;have:w<u.heap.size:=tO;have:w≤u.heap.size:=tO;have:w≤u.heap.size+1:=tO;have:=kT m (b:=q) ((by ((try simp);(try omega)))) tO;have:=lF m (b:=q) ((by ((try simp);(try omega)))) tO;have:q<u.heap.size:=tO;have:q≤u.heap.size:=tO;have:q≤u.heap.size+1:=tO
   go_wp2
   refine bodyPost_ret (v:=.agg #[.int .i64 x1,.int .i64 x2,.int .i64 Z]) (by simp [results,results188,go_sem, *]) rfl ⟨⟨_,_,_,rfl⟩,?_,?_⟩
   ·exact zD
   ·exact lh
structure Code (w:World) (B:Nat) (a:Option Addr) (n:Nat) (bs:Nat→Int):Prop where
 len:n≤4096
 bd:∀ j,0≤bs j∧bs j≤255
 seg:Seg w B a n 1 (fun j _=>.int .u8 (bs j))
theorem Code.below {w w':World} {B n:Nat} {a:Option Addr} {bs:Nat→Int} (h:Code w B a n bs) (k:Below B w w'):Code w' B a n bs:=⟨h.len,h.bd,h.seg.below k⟩
theorem Code.more {w:World} {B m n:Nat} {a:Option Addr} {bs:Nat→Int} (h:Code w B a n bs) (k:B≤m):Code w m a n bs:=⟨h.len,h.bd,h.seg.more k⟩
theorem Hl (B n cap:Nat) (a:Option Addr) (bs:Nat→Int) (w:World) (h:Code w B a n bs) (m:B≤w.heap.size) :
  Calls prog 63 #[.slice a n cap] w fun r w'=>∃ g,r=.returned (.pointer (some ⟨g,0,none⟩))∧DS w' B g∧w.heap.size≤g∧Below w w w' :=
 IJ B n cap a bs w m h.len h.bd h.seg
end
section
open Go.RowKit
def PO (r:Ending):Prop:=∃ k e:Int,r=.returned (.agg #[.int .i64 k,.int .i64 e])∧eB k e=true
theorem EE {x:Int} (m:0≤x) (h1:x≤99):eB 1 x=true:=by
 simp [eB,dA];omega
theorem vN (B g:Nat) (w:World) (I:DS w B g):Calls prog 165 #[.pointer (some ⟨g,0,none⟩)] w fun r w'=>PO r∧DS w' B g∧Gr g w w':=by
 have R:=I.lt
 have M:=I.le
 go_enter func165,ntmps165
 go_wp2_with fail;refine (iL B g 2  _ zD  tO tO).mono ?_;rintro _ D ⟨⟨O,rfl⟩,u,m⟩;have G:Gr g w D:=gT lh m;have J:=u.lt;have z:=m.size;(try (simp at z));have:=kT m (b:=w) ((by ((try simp);(try omega)))) tO;have:=lF m (b:=w) ((by ((try simp);(try omega)))) tO;have:w<D.heap.size:=tO;have:w≤D.heap.size:=tO;have:w≤D.heap.size+1:=tO
 cases O
 ·go_wp2_with fail;refine (eG B g 100  _ zD  tO tO).mono ?_;rintro _ E ⟨⟨N,rfl,F,L⟩,y,q⟩;have H:Gr g w E:=gT lh q;have K:=y.lt;have A:=q.size;(try (simp at A));have:=kT q (b:=w) ((by ((try simp);(try omega)))) tO;have:=lF q (b:=w) ((by ((try simp);(try omega)))) tO;have:w<E.heap.size:=tO;have:w≤E.heap.size:=tO;have:w≤E.heap.size+1:=tO
  go_wp2
  refine bodyPost_ret (v:=.agg #[.int .i64 1,.int .i64 N]) (by simp [results,results165,go_sem, *]) rfl ⟨⟨_,_,rfl,EE F tO⟩,?_,?_⟩
  ·exact zD
  ·exact lh
 ·go_wp2
  refine bodyPost_ret (v:=.agg #[.int .i64 2,.int .i64 0]) (by simp [results,results165,go_sem, *]) rfl ⟨⟨_,_,rfl,by decide⟩,?_,?_⟩
  ·exact zD
  ·exact lh
end
section
def gL (s:St):Bool:=!s.2.2 && decide (0<s.1.cells.length)
theorem vO (c:Ch) (h:Ha):gL (done c h)=false:=by
 unfold gL done
 split <;> simp [nothing,Ch.zero]
theorem qA:gL nothing=false:=by simp [gL,nothing,Ch.zero]
theorem u6 (c:Ch) (h:Ha) (a b:Int) (y:Ha):gL (j6 c h a b y)=false:=by
 unfold j6
 split <;> exact vO _ _
theorem u7 (c:Ch) (h:Ha) (a b:Int) (y:Ha):gL (lH c h a b y)=false:=by
 unfold lH
 split <;> exact vO _ _
theorem Ca (c:Ch) (h:Ha) (e:h.seen=3):gL (gX c h)=false:=by
 have m:(h.seen == 2)=false:=by simp [e]
 have q:(h.seen == 3)=true:=by simp [e]
 unfold gX
 rw [m,q]
 exact u6 _ _ _ _ _
theorem Cb (c:Ch) (h:Ha) (e:h.seen=3):gL (iH c h)=false:=by
 have m:(h.seen == 3)=true:=by simp [e]
 unfold iH
 rw [m]
 exact u7 _ _ _ _ _
theorem Cc (c:Ch) (h:Ha):gL (pO c h)=gL (gX c h):=by
 unfold pO
 split
 ·rename_i e
  rw [Ca c h (by simpa using e),u6]
 ·rfl
theorem Ce (c:Ch) (h:Ha):gL (nI c h)=gL (iH c h):=by
 unfold nI
 split
 ·rename_i e
  rw [Cb c h (by simpa using e),u7]
 ·rfl
theorem Cf (c:Ch) (h:Ha):gL (eF c h)=gL (bL c h):=by
 unfold eF
 split
 ·rename_i e
  rw [Bool.and_eq_true] at e
  have p:h.pos=12:=by simpa using e.2
  rw [Cc]
  unfold bL
  rw [if_pos e.1]
  simp [p]
 ·rfl
theorem Cg (c:Ch) (h:Ha):gL (dQ c h)=gL (bP c h):=by
 unfold dQ
 split
 ·rename_i e
  rw [Bool.and_eq_true] at e
  have p:h.pos=19:=by simpa using e.2
  rw [Ce]
  unfold bP
  rw [if_pos e.1]
  simp [p]
 ·rfl
theorem Oq (c:Ch) (h:Ha):gL (iO c h)=gL (fZ c h):=by
 unfold iO fZ
 split
 ·rfl
 ·split
  ·exact Cf c h
  ·split
   ·exact Cg c h
   ·rfl
end
section
open Go.RowKit
section
variable {P:Program}
theorem rW (w:World) (F L M elem:TypeId) (g o q u k:Nat) (a:Addr) (r A:Nat) (m:Array Value) (t:TypeId) (cs:List Value)
  (K:P.underlying F=some (.slice elem)) (hs:(P.info? elem).map (·.size)=some k)
  (G:w.heap[g]?=some (.cells m t (0,0))) (J:cs.length=Nat.min r q*k)
  (z:∀ j v,cs[j]?=some v→w.cell? (a.add j)=some v) (y:o+cs.length≤m.size) (h1:∀ v ∈ cs,v.oneCell'=true) :
  (Builtin.copy_ #[F,L] M #[.slice (some ⟨g,o,none⟩) q u,.slice (some a) r A]).run P w =
   .ok (goInt (Nat.min r q)) (w.setRow g (m.toList.take o ++ cs ++ m.toList.drop (o+cs.length)).toArray):=by
 have I:=run_loadCells_list (P:=P) w a cs z
 have E:=run_storeCells_at P g o t cs 0 m w G (by simpa using y) h1
 cases D:P.info? elem with
 | none=>simp [D] at hs
 | some i =>
  have H:i.size=k:=by simpa [D] using hs
  simp [Builtin.copy_,run_underlying K,Builtin.lenOf,Builtin.firstCells,sizeOf,typeInfo,D,H,← J,I,E]
theorem xE (w:World) (y E F elem:TypeId) (d:Option Addr) (r q m u k:Nat) (A:P.underlying y=some (.slice elem)) (hs:(P.info? elem).map (·.size)=some k) (D:m=0) :
  (Builtin.copy_ #[y,E] F #[.slice d r q,.slice none m u]).run P w=.ok (goInt 0) w:=by
 subst D
 cases z:P.info? elem with
 | none=>simp [z] at hs
 | some i=>cases d <;> simp [Builtin.copy_,run_underlying A,Builtin.lenOf,Builtin.firstCells,sizeOf,typeInfo,z,storeCells]
theorem IK (w:World) (g:Nat) (cs:Array Value):w.grownBy (w.setRow g cs) (some g):=⟨rfl,rfl,rfl,by simp [World.setRow],fun k _ m=>setRow_other w g k cs (fun e=>m (by rw [e]))⟩
theorem qF (w:World) (z E F elem:TypeId) (g n k:Nat) (A:Option Addr) (q:Nat) (m:Array Value) (t:TypeId) (r:List Value)
  (I:P.underlying z=some (.slice elem)) (hs:(P.info? elem).map (·.size)=some k) (D:w.heap[g]?=some (.cells m t (0,0))) (L:m.size=n*k) (G:r.length=n*k)
  (M:A=none→n=0) (y:∀ u,A=some u→∀ j v,r[j]?=some v→w.cell? (u.add j)=some v) (h1:∀ v ∈ r,v.oneCell'=true) :
  ∃ w',(Builtin.copy_ #[z,E] F #[.slice (some ⟨g,0,none⟩) n n,.slice A n q]).run P w=.ok (goInt n) w'∧w'.heap[g]?=some (.cells r.toArray t (0,0))∧w.grownBy w' (some g):=by
 rcases A with _|u
 ·obtain rfl:=M rfl
  refine ⟨w,xE w z E F elem _ 0 0 0 q k I hs rfl,?_,⟨rfl,rfl,rfl,Nat.le_refl _,fun _ _ _=>rfl⟩⟩
  have J:r=[]:=List.eq_nil_of_length_eq_zero (by simpa using G)
  have K:m=#[]:=Array.eq_empty_of_size_eq_zero (by simpa using L)
  rw [D,J,K]
 ·have H:Nat.min n n=n:=Nat.min_self n
  have:=rW (P:=P) w z E F elem g 0 n n k u n q m t r I hs D (by rw [H];exact G) (y u rfl) tO h1
  rw [H] at this
  refine ⟨_,this,?_,IK w g _⟩
  have:=setRow_heap w g m ((m.toList.take 0 ++ r ++ m.toList.drop (0+r.length)).toArray) t (0,0) D
  rw [this]
  have e:m.toList.drop (0+r.length)=[]:=by apply List.drop_eq_nil_of_le;simp;omega
  rw [e]
  simp
end
theorem Ci {w:World} {lo g n k:Nat} {t:TypeId} {m:List Value} (h:w.heap[g]?=some (.cells m.toArray t (0,0))) (q:m.length=n*k) (r:lo≤g) (u:n≤maxLen):w.ownsRow lo t k (.slice (some ⟨g,0,none⟩) n n) n m :=
 ⟨q,.inr ⟨g,n,m.toArray,rfl,r,h,Nat.le_refl _,u,by simp [q],by simp [← q]⟩⟩
end
section
def KY (x:Wo) (who:Int) (h:Ha):De:=⟨who,(aL x who).code,(aL x who).elem,(aL x who).beg,x.now+1,h.reply,h.out⟩
def lM (x:Wo) (who:Int) (s:St):Wo × Bool :=
 if !s.2.2 || x.now == 20000 then (x,false)
 else if s.2.1.pos == 0 && x.deals.length == 1000 then (x,false)
 else ({ gY x who s.2.1 with now:=x.now+1,ch:=s.1,deals:=if s.2.1.pos == 0 then x.deals ++ [KY x who s.2.1] else x.deals },true)
def iw (x:Wo) (who:Int):Wo × Bool:=lM x who (iO x.ch (aL x who))
def iV (f:Wo→Wo × Bool):Nat→Wo→Wo × Nat
 | 0,x=>(x,0)
 | n+1,x=>if (f x).2 then ((iV f n (f x).1).1,(iV f n (f x).1).2+1) else ((f x).1,0)
def xG:Nat→Nat→Wo→Bool→Wo × Bool
 | 0,_,x,w=>(x,w)
 | k+1,i,x,w=>xG k (i+1) (iw x (i:Int)).1 ((iw x (i:Int)).2 || w)
def mi (x:Wo):Wo × Bool:=xG x.hands 0 x false
def iQ (x:Wo) (who most:Int):Wo × Int :=
 if bC x && cK x who then (if dA most 0 20000 then ((iV (fun y=>iw y who) most.toNat x).1,(iV (fun y=>iw y who) most.toNat x).2) else (x,-1)) else (Wo.zero,-1)
def kH (x:Wo) (most:Int):Wo × Int :=
 if bC x then (if dA most 0 20000 then ((iV mi most.toNat x).1,(iV mi most.toNat x).2) else (x,-1)) else (Wo.zero,-1)
theorem tH (x:Wo) (who:Int):(iw x who).1.hands.length=x.hands.length:=by
 unfold iw lM
 split
 ·rfl
 ·split
  ·rfl
  ·simp [gY]
end
section
def pz (x:Wo) (i:Nat):Bool:=(aL x (i:Int)).pos == 23 && gL (fZ x.ch (aL x (i:Int)))
def iW (x:Wo):Nat→List Int
 | 0=>[]
 | k+1=>if pz x k then iW x k ++ [(k:Int)] else iW x k
def fT (x:Wo):List Int:=if bC x then iW x x.hands else []
def ma (x:Wo):Nat→Bool
 | 0=>true
 | k+1=>ma x k && ((aL x (k:Int)).pos == 0 || pz x k)
def quietIn (x:Wo):Bool:=bC x && ma x x.hands
def kI (ds:List De):List Int:=(ds.filter fun d=>d.reply == 1).map De.elem
def mZ (ds:List De):List Int:=(ds.filter fun d=>d.reply == 2).map De.out
def jJ (l:List Int) (n:Int):Nat:=(l.filter fun m=>m == n).length
def o7 (x:Wo):Bool:=quietIn x && ((kI x.deals).all (fun n=>jJ (kI x.deals) n == jJ (mZ x.deals ++ keptIn x.ch) n) && (kI x.deals).length == (mZ x.deals ++ keptIn x.ch).length)
end
end Go.Proofs.YtffhjmepfojhnaaGreat
