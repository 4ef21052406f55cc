/-
  The reference model's calling of a receiver, on hands and channels that are kept whole; lists hold at most 2 ^ 40 elements.
-/
import Derived.Test.YtffhjmepfojhnaaGreatS06
import Derived.Test.YtffhjmepfojhnaaGreatS07
import Derived.Test.YtffhjmepfojhnaaGreatS08
set_option maxRecDepth 100000
set_option maxHeartbeats 2000000
set_option linter.unusedSimpArgs false
set_option linter.unusedVariables false
namespace Go.Proofs.YtffhjmepfojhnaaGreat
open _root_.Go.Proofs.Tryz
section
open Go.RowKit
attribute [local simp] aP
attribute [local go_sem ↓] aQ bF aY bY aZ bZ aX bB aN aU
theorem Fg (c:Ch) (h:Ha) (a b:Option Addr) (p q:Nat) (w:World) (h1:fA w w a c.cells) (z1:a=none→p=0) (h2:fD w w b c.words) (z2:b=none→q=0) (m1:c.cells.length≤1099511627776) (m2:c.words.length≤1099511627776) :
  Calls prog 202 #[.agg (aF c (.slice a c.cells p) (.slice b c.words q)),.agg (aB h)] w fun r w'=>(∃ J K,r=.returned (.tuple #[.agg (aF c J K),.agg (aB (mR c h).2)])∧aD w' w J c.cells∧aG w' w K (dM c h.wait 1).words)∧Below w w w':=by
 have U:=aA h1
 have V:=aA h2
 have X:=aA z1
 have Y:=aA z2
 clear h1 h2 z1 z2
 cases I:eY c h.wait 1 with
 | true =>
  have e:(mR c h).2={ h with pos:=8 }:=by simp [mR,I]
  rw [e]
  go_enter func202,ntmps202
  go_wp2_with fail;refine aK w zB fun y=>?_;refine (qm c h.wait 1 a b p q _ (aT U y) X.out (aT V y) Y.out m1 m2).mono ?_;rintro _ T ⟨⟨J,K,rfl,D,E⟩,u⟩;obtain ⟨G,A,z⟩:=fH y u (b:=w);(try simp at A);(try simp [go_sem] at z);replace N:=dW z;clear z u y
  rw [I]
  try simp at D E
  obtain ⟨L,O,rfl,_⟩:=D.seg
  obtain ⟨M,R,rfl,_⟩:=E.seg
  go_wp2
  go_region
  go_wp2
  all_goals (refine bodyPost_ret (rq results202 rfl (aO c (.slice L c.cells O) (.slice M (dM c h.wait 1).words.length R) tY) rfl (aJ { h with pos:=8 } tZ)) rfl ⟨⟨_,_,rfl,aH (lo:=w+1+1+1+1) ?_ tO,aH (lo:=w+1+1+1+1) ?_ tO⟩,by exact zB⟩)
  ·exact zO D D
  ·exact zO E E
 | false =>
  have e:(mR c h).2=anew h:=by simp [mR,I]
  rw [e]
  go_enter func202,ntmps202
  go_wp2_with fail;refine aK w zB fun y=>?_;refine (qm c h.wait 1 a b p q _ (aT U y) X.out (aT V y) Y.out m1 m2).mono ?_;rintro _ T ⟨⟨J,K,rfl,D,E⟩,u⟩;obtain ⟨G,A,z⟩:=fH y u (b:=w);(try simp at A);(try simp [go_sem] at z);replace N:=dW z;clear z u y
  rw [I]
  try simp at D E
  obtain ⟨L,O,rfl,_⟩:=D.seg
  obtain ⟨M,R,rfl,_⟩:=E.seg
  go_wp2_with fail
  go_region_with (go_at_call 207;refine aK w zB fun y=>?_;refine aK T zB fun Z=>?_;refine (lJ _ _).mono ?_;rintro _ w2 ⟨rfl,m⟩;have a0:=bT y m;have H:=m.size;(try simp at H);have z:=And.intro (hQ m (b:=T)) <| And.intro (hQ m (b:=w+1+1+1)) <| And.intro (hQ m (b:=w+1+1)) <| And.intro (hQ m (b:=w+1)) <| hQ m (b:=w);(first|simp [go_sem,N] at z|simp [go_sem] at z|skip);replace N:=ll z;clear z;have F:=bT Z m;clear m y Z)
  all_goals (go_wp2_with fail)
  all_goals (have p1:=own_below D F;have p2:=own_below E F)
  all_goals (refine bodyPost_ret (rq results202 rfl (aO c (.slice L c.cells O) (.slice M (dM c h.wait 1).words.length R) tY) rfl (aJ (anew h) tZ)) rfl ⟨⟨_,_,rfl,aH (lo:=w+1+1+1+1) ?_ tO,aH (lo:=w+1+1+1+1) ?_ tO⟩,by exact zB⟩)
  all_goals first|(repeat first|with_reducible exact p1|with_reducible refine rQ ?_ _|with_reducible refine qh ?_|((with_reducible first|refine aI ?_ ?_ _|refine dZ ?_ ?_);rotate_left;focus first|(refine own_ne D ?_;(try dsimp only);omega)|(refine dN D ?_;(try dsimp only);omega)))|skip
  all_goals first|(repeat first|with_reducible exact p2|with_reducible refine rQ ?_ _|with_reducible refine qh ?_|((with_reducible first|refine aI ?_ ?_ _|refine dZ ?_ ?_);rotate_left;focus first|(refine own_ne E ?_;(try dsimp only);omega)|(refine dN E ?_;(try dsimp only);omega)))|skip
end
section
theorem two {a b:Nat} (e:a=b):(a=70↔b=70)∧(a=74↔b=74):=by rw [e];exact ⟨Iff.rfl,Iff.rfl⟩
end
end Go.Proofs.YtffhjmepfojhnaaGreat
