/-
  FnStops returns true for every list of bytes that it is called with, and turns nothing; no condition.
-/
import Derived.Test.YtffhjmepfojhnaaGreatS49
import Derived.Test.YtffhjmepfojhnaaGreatS34
import Derived.Test.YtffhjmepfojhnaaGreatS40
import Derived.Test.YtffhjmepfojhnaaGreatS41
set_option maxRecDepth 100000
set_option linter.unusedSimpArgs false
set_option linter.unusedVariables false
namespace Go.Proofs.YtffhjmepfojhnaaGreat
open _root_.Go.Proofs.Tryz
open Go.ChangeShapes Go.WideShapes Go.ChangeAt Go.RowKit
namespace FnStops
theorem lifted (O:Os) (u:O.Started) (H:Type) (enc:TypeId × Value→H) :
  ReturnsInHanded {} Tryz.checked O 4 .any (Rows.fnStopsSpec.pre6 enc prog Tryz.f4 Rows.fnStopsRow.domain false) (Rows.fnStopsSpec.post enc prog Tryz.f4 false true false false):=by
 refine returnsInHanded_of_change (C:=Tryz.checked) own u (by kernel_rfl) func4
  (ChangeSpec.witness6 (enc:=enc) (C:=Tryz.checked) false ⟨#[],#[.slice none 0 0],[]⟩ 8 (by kernel_rfl) (by kernel_rfl) (by kernel_rfl) (by kernel_rfl)) ?_
 intro W z args ds gs F r L M _
 have y:∀ (j:Nat) t v,Tryz.f4.params[j]?=some t→args[j]?=some v→Value.okWide prog W .any z t v:=r
 have hW':=L
 obtain ⟨p,q,E,X,rfl,Z,a1⟩:=L
 have K:DataW.TrodAll enc prog W 0 (fun _=>true) true Tryz.f4.params.toList args.toList ds p:=E
 rw [Tryz.params4] at K y
 obtain ⟨R,a2,d0,V,p0,q0,G,rfl,rfl,J,r0⟩:=trodAll_cons K
 obtain ⟨rfl,rfl,rfl⟩:=trodAll_nil r0
 obtain rfl:args=#[R]:=by cases args;simp_all
 obtain ⟨rfl,rfl⟩:=trodVars_none X
 have N:=J
 have I:∀ x ∈ p0,x.block<W.heap.size:=by obtain ⟨m,hm⟩:=N;exact DataW.trod_lt m _ _ _ hm
 obtain ⟨U,n0,D,l0,rfl,m0,z0,T⟩:=Qd (y 0 22 R rfl rfl) J
 clear E r
 refine (Eo Bi yD n0 D U l0 W z0 T).mono fun e W' ⟨Y,A⟩=>?_
 subst Y
 exact ⟨_,rfl,_,_,_,[],_,[],hW',trodAll_mk1 (shut_bool underlying4 _),(trodAll_cons_mk (Below.trod laidOut (by kernel_rfl) (of_decide_eq_true (by kernel_rfl)) N A I) trodAll_mk0),rfl,A.frame _,fun h=>by cases h⟩
theorem over:Rows.fnStopsRow.holds Tryz.pinned (OpenSpec.ofChange Rows.fnStopsSpec) :=
 OpenClaim.holds_of_wide 4 Tryz.f4 rfl rfl rfl rfl rfl rfl rfl ⟨rfl,rfl,rfl,rfl,rfl⟩ rfl rfl rfl rfl rfl (by kernel_rfl) func4 (by kernel_rfl)
  (of_decide_eq_true (by kernel_rfl)) (by unfold Func.isWrapper;first|(rw [if_pos (by decide +kernel)];kernel_rfl)|(rw [if_neg (by decide +kernel)];exact ⟨rfl,rfl⟩))
  (fun q m H enc _=>lifted q m H enc)
end FnStops
theorem fnStops_proved:Rows.FnStopsSaid:=FnStops.over
end Go.Proofs.YtffhjmepfojhnaaGreat
