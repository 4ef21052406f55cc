/-
  No cell of these rows narrows 'for every input' (looked for: loops, veiled, ifaces, maps, wideKeys, modest, calm, conditions, laid).
  DERIVED. THE GIVEN ROWS OF THIS SEAT. 4 by the template 'for every input the law returns true; each argument reads behind the call as it read before'; 0 by the template 'total and deterministic' (their statements: YteocdelblmgocaaTotals.lean).
  GIVEN WITH THE SEED: the statements are not yours to turn. If you find one false, say at which input.
  Laid BY PROGRAM, IN A SANDBOX (cutbox-rows.mjs): the forced cells as the released guide's own fill.sh prints them over the translation 1c7ba9854799201b… (all of the seat's roots in one cut). By AI agents, Wed Nov 11 2026. No macro, syntax, notation, axiom, sorry.
-/
import Derived.Test.YteocdelblmgocaaChecked
import GoSem.Claim
import GoSem.ClaimJoined
import GoSem.ClaimMapViews
import Derived.JoinedTies
import Derived.KernelRfl
namespace Go.Proofs.Yteocdelblmgocaa
/- THE CELL 'sum', in the pinned program and in every row, IS THE sha256 OF THE DUMP (.gsa) THAT YteocdelblmgocaaProg.lean LOADS. Nothing in Lean hashes anything: it is a label: what it is worth is what the hold of that sum in a sandbox is worth. -/
noncomputable def Try.pinned : Pinned := { name := "yteocdelblmgocaa", sum := "1c7ba9854799201bcbfdcd2cb5cf730d32892002e535c05cbd75f79047ed5384", checked := Try.checked }
namespace Rows
def none {H : Type} : Left H := { results := [], args := [] }

/-- 'laws.FnExactChanOk': WHATEVER THE INPUT: true; the input reads as it did. -/
def fnExactChanOkSpec : ChangeSpec := { name := "fnExactChanOk", fn := fun _ => fun
  | [d] => { results := [.lit (.bool true)], args := [d] }
  | _ => none }
def fnExactChanOkRow : OpenClaim := { program := "yteocdelblmgocaa", sum := "1c7ba9854799201bcbfdcd2cb5cf730d32892002e535c05cbd75f79047ed5384", func := "loop.example/g00794/laws.FnExactChanOk", spec := "fnExactChanOk", apart := false }
def FnExactChanOkSaid : Prop := fnExactChanOkRow.holds Try.pinned (OpenSpec.ofChange fnExactChanOkSpec)

/-- ITS FALSE NEIGHBOUR: 'it returns false'. Refute it at one input. -/
def fnExactChanOkWrong : ChangeSpec := { name := "fnExactChanOk", fn := fun _ => fun
  | [d] => { results := [.lit (.bool false)], args := [d] }
  | _ => none }
def FnExactChanOkWrongFalsely : Prop := fnExactChanOkRow.holds Try.pinned (OpenSpec.ofChange fnExactChanOkWrong)

/-- 'laws.FnExactNewChan': WHATEVER THE INPUT: true; the input reads as it did. -/
def fnExactNewChanSpec : ChangeSpec := { name := "fnExactNewChan", fn := fun _ => fun
  | [d] => { results := [.lit (.bool true)], args := [d] }
  | _ => none }
def fnExactNewChanRow : OpenClaim := { program := "yteocdelblmgocaa", sum := "1c7ba9854799201bcbfdcd2cb5cf730d32892002e535c05cbd75f79047ed5384", func := "loop.example/g00794/laws.FnExactNewChan", spec := "fnExactNewChan", apart := false }
def FnExactNewChanSaid : Prop := fnExactNewChanRow.holds Try.pinned (OpenSpec.ofChange fnExactNewChanSpec)

/-- ITS FALSE NEIGHBOUR: 'it returns false'. Refute it at one input. -/
def fnExactNewChanWrong : ChangeSpec := { name := "fnExactNewChan", fn := fun _ => fun
  | [d] => { results := [.lit (.bool false)], args := [d] }
  | _ => none }
def FnExactNewChanWrongFalsely : Prop := fnExactNewChanRow.holds Try.pinned (OpenSpec.ofChange fnExactNewChanWrong)

/-- 'laws.FnExactKeptIn': WHATEVER THE INPUT: true; the input reads as it did. -/
def fnExactKeptInSpec : ChangeSpec := { name := "fnExactKeptIn", fn := fun _ => fun
  | [d] => { results := [.lit (.bool true)], args := [d] }
  | _ => none }
def fnExactKeptInRow : OpenClaim := { program := "yteocdelblmgocaa", sum := "1c7ba9854799201bcbfdcd2cb5cf730d32892002e535c05cbd75f79047ed5384", func := "loop.example/g00794/laws.FnExactKeptIn", spec := "fnExactKeptIn", apart := false }
def FnExactKeptInSaid : Prop := fnExactKeptInRow.holds Try.pinned (OpenSpec.ofChange fnExactKeptInSpec)

/-- ITS FALSE NEIGHBOUR: 'it returns false'. Refute it at one input. -/
def fnExactKeptInWrong : ChangeSpec := { name := "fnExactKeptIn", fn := fun _ => fun
  | [d] => { results := [.lit (.bool false)], args := [d] }
  | _ => none }
def FnExactKeptInWrongFalsely : Prop := fnExactKeptInRow.holds Try.pinned (OpenSpec.ofChange fnExactKeptInWrong)

/-- 'laws.FnExactWaitingIn': WHATEVER THE INPUT: true; the input reads as it did. -/
def fnExactWaitingInSpec : ChangeSpec := { name := "fnExactWaitingIn", fn := fun _ => fun
  | [d1, d2] => { results := [.lit (.bool true)], args := [d1, d2] }
  | _ => none }
def fnExactWaitingInRow : OpenClaim := { program := "yteocdelblmgocaa", sum := "1c7ba9854799201bcbfdcd2cb5cf730d32892002e535c05cbd75f79047ed5384", func := "loop.example/g00794/laws.FnExactWaitingIn", spec := "fnExactWaitingIn", apart := false }
def FnExactWaitingInSaid : Prop := fnExactWaitingInRow.holds Try.pinned (OpenSpec.ofChange fnExactWaitingInSpec)

/-- ITS FALSE NEIGHBOUR: 'it returns false'. Refute it at one input. -/
def fnExactWaitingInWrong : ChangeSpec := { name := "fnExactWaitingIn", fn := fun _ => fun
  | [d1, d2] => { results := [.lit (.bool false)], args := [d1, d2] }
  | _ => none }
def FnExactWaitingInWrongFalsely : Prop := fnExactWaitingInRow.holds Try.pinned (OpenSpec.ofChange fnExactWaitingInWrong)

/- THE SECOND FORM. 'bulk': how many values and letters a reading holds, each counted each time it is reached (what is shared counts as often as it is met; a slice's spare places count too). A statement '..UptoSaid' is the law's where the arguments, and the package variables that the reading takes, are together of bulk at most 1048576: NARROWER than '..Said'. Prove '..Said' where nothing that the law and all that it calls make is longer than what came in: it says more and counts as full. Else prove '..UptoSaid'. A law counts once. -/
mutual
def uptoBulk {H : Type} : DataW H → Nat
  | .lit (.string bytes) => bytes.length + 1
  | .lit _ => 1
  | .nil => 1
  | .ptr d => uptoBulk d + 1
  | .slice elems spare => uptoBulkAll elems + uptoBulkAll spare + 1
  | .agg parts => uptoBulkAll parts + 1
  | .iface _ d => uptoBulk d + 1
  | .map entries => uptoBulkEntries entries + 1
  | .held _ => 1
def uptoBulkAll {H : Type} : List (DataW H) → Nat
  | [] => 0
  | d :: r => uptoBulk d + uptoBulkAll r
def uptoBulkEntries {H : Type} : List (Lit × DataW H) → Nat
  | [] => 0
  | x :: r => uptoBulkEntry x + uptoBulkEntries r
def uptoBulkEntry {H : Type} : Lit × DataW H → Nat
  | (.string bytes, d) => bytes.length + uptoBulk d + 1
  | (_, d) => uptoBulk d + 1
 end
def uptoSmall : (H : Type) → List (DataW H) → Bool := fun _ ds => decide (uptoBulkAll ds ≤ 1048576)
def OpenSpec.upto (s : _root_.Go.ChangeSpec) : _root_.Go.OpenSpec := { _root_.Go.OpenSpec.ofChange s with cond := some uptoSmall }

/-- 'laws.FnExactChanOk', WHERE WHAT IT READS IS OF BULK AT MOST 1048576: true; the input reads as it did. -/
def fnExactChanOkUptoRow : OpenClaim := { program := "yteocdelblmgocaa", sum := "1c7ba9854799201bcbfdcd2cb5cf730d32892002e535c05cbd75f79047ed5384", func := "loop.example/g00794/laws.FnExactChanOk", spec := "fnExactChanOk", apart := false, narrowed := true }
def FnExactChanOkUptoSaid : Prop := fnExactChanOkUptoRow.holds Try.pinned (OpenSpec.upto fnExactChanOkSpec)

/-- 'laws.FnExactNewChan', WHERE WHAT IT READS IS OF BULK AT MOST 1048576: true; the input reads as it did. -/
def fnExactNewChanUptoRow : OpenClaim := { program := "yteocdelblmgocaa", sum := "1c7ba9854799201bcbfdcd2cb5cf730d32892002e535c05cbd75f79047ed5384", func := "loop.example/g00794/laws.FnExactNewChan", spec := "fnExactNewChan", apart := false, narrowed := true }
def FnExactNewChanUptoSaid : Prop := fnExactNewChanUptoRow.holds Try.pinned (OpenSpec.upto fnExactNewChanSpec)

/-- 'laws.FnExactKeptIn', WHERE WHAT IT READS IS OF BULK AT MOST 1048576: true; the input reads as it did. -/
def fnExactKeptInUptoRow : OpenClaim := { program := "yteocdelblmgocaa", sum := "1c7ba9854799201bcbfdcd2cb5cf730d32892002e535c05cbd75f79047ed5384", func := "loop.example/g00794/laws.FnExactKeptIn", spec := "fnExactKeptIn", apart := false, narrowed := true }
def FnExactKeptInUptoSaid : Prop := fnExactKeptInUptoRow.holds Try.pinned (OpenSpec.upto fnExactKeptInSpec)

/-- 'laws.FnExactWaitingIn', WHERE WHAT IT READS IS OF BULK AT MOST 1048576: true; the input reads as it did. -/
def fnExactWaitingInUptoRow : OpenClaim := { program := "yteocdelblmgocaa", sum := "1c7ba9854799201bcbfdcd2cb5cf730d32892002e535c05cbd75f79047ed5384", func := "loop.example/g00794/laws.FnExactWaitingIn", spec := "fnExactWaitingIn", apart := false, narrowed := true }
def FnExactWaitingInUptoSaid : Prop := fnExactWaitingInUptoRow.holds Try.pinned (OpenSpec.upto fnExactWaitingInSpec)

end Rows
end Go.Proofs.Yteocdelblmgocaa
