/-
  No cell of these rows narrows 'for every input' (looked for: loops, veiled, ifaces, maps, wideKeys, modest, calm, conditions, laid).
  DERIVED. THE GIVEN ROWS OF THIS SEAT. 6 by the template 'for every input the law returns true; each argument reads behind the call as it read before'; 0 by the template 'total and deterministic' (their statements: YtffhjmepfojhnaaGreatTotals.lean).
  GIVEN WITH THE SEED: the statements are not yours to turn. If you find one false, say at which input.
  Laid BY PROGRAM, IN A SANDBOX (cutbox-rows.mjs): the forced cells as the released guide's own fill.sh prints them over the translation 4a05bc3e1cb9a084… (all of the seat's roots in one cut). By AI agents, Wed Nov 11 2026. No macro, syntax, notation, axiom, sorry.
-/
import Derived.Test.YtffhjmepfojhnaaGreatChecked
import GoSem.Claim
import GoSem.ClaimJoined
import GoSem.ClaimMapViews
import Derived.JoinedTies
import Derived.KernelRfl
namespace Go.Proofs.YtffhjmepfojhnaaGreat
/- THE CELL 'sum', in the pinned program and in every row, IS THE sha256 OF THE DUMP (.gsa) THAT YtffhjmepfojhnaaGreatProg.lean LOADS. Nothing in Lean hashes anything: it is a label: what it is worth is what the hold of that sum in a sandbox is worth. -/
noncomputable def Tryz.pinned : Pinned := { name := "ytffhjmepfojhnaagreat", sum := "4a05bc3e1cb9a084189d194bbe9cd0a5a86b34e83cfb1cff9121ec3d23c51278", checked := Tryz.checked }
namespace Rows
def none {H : Type} : Left H := { results := [], args := [] }

/-- 'laws.FnRoom': WHATEVER THE INPUT: true; the input reads as it did. -/
def fnRoomSpec : ChangeSpec := { name := "fnRoom", fn := fun _ => fun
  | [d] => { results := [.lit (.bool true)], args := [d] }
  | _ => none }
def fnRoomRow : OpenClaim := { program := "ytffhjmepfojhnaagreat", sum := "4a05bc3e1cb9a084189d194bbe9cd0a5a86b34e83cfb1cff9121ec3d23c51278", func := "loop.example/g00794/laws.FnRoom", spec := "fnRoom", unfollowed := true, recurses := true, apart := false }
def FnRoomSaid : Prop := fnRoomRow.holds Tryz.pinned (OpenSpec.ofChange fnRoomSpec)

/-- ITS FALSE NEIGHBOUR: 'it returns false'. Refute it at one input. -/
def fnRoomWrong : ChangeSpec := { name := "fnRoom", fn := fun _ => fun
  | [d] => { results := [.lit (.bool false)], args := [d] }
  | _ => none }
def FnRoomWrongFalsely : Prop := fnRoomRow.holds Tryz.pinned (OpenSpec.ofChange fnRoomWrong)

/-- 'laws.FnStops': WHATEVER THE INPUT: true; the input reads as it did. -/
def fnStopsSpec : ChangeSpec := { name := "fnStops", fn := fun _ => fun
  | [d] => { results := [.lit (.bool true)], args := [d] }
  | _ => none }
def fnStopsRow : OpenClaim := { program := "ytffhjmepfojhnaagreat", sum := "4a05bc3e1cb9a084189d194bbe9cd0a5a86b34e83cfb1cff9121ec3d23c51278", func := "loop.example/g00794/laws.FnStops", spec := "fnStops", unfollowed := true, recurses := true, apart := false }
def FnStopsSaid : Prop := fnStopsRow.holds Tryz.pinned (OpenSpec.ofChange fnStopsSpec)

/-- ITS FALSE NEIGHBOUR: 'it returns false'. Refute it at one input. -/
def fnStopsWrong : ChangeSpec := { name := "fnStops", fn := fun _ => fun
  | [d] => { results := [.lit (.bool false)], args := [d] }
  | _ => none }
def FnStopsWrongFalsely : Prop := fnStopsRow.holds Tryz.pinned (OpenSpec.ofChange fnStopsWrong)

/-- 'laws.FnQuiet': WHATEVER THE INPUT: true; the input reads as it did. -/
def fnQuietSpec : ChangeSpec := { name := "fnQuiet", fn := fun _ => fun
  | [d] => { results := [.lit (.bool true)], args := [d] }
  | _ => none }
def fnQuietRow : OpenClaim := { program := "ytffhjmepfojhnaagreat", sum := "4a05bc3e1cb9a084189d194bbe9cd0a5a86b34e83cfb1cff9121ec3d23c51278", func := "loop.example/g00794/laws.FnQuiet", spec := "fnQuiet", unfollowed := true, recurses := true, apart := false }
def FnQuietSaid : Prop := fnQuietRow.holds Tryz.pinned (OpenSpec.ofChange fnQuietSpec)

/-- ITS FALSE NEIGHBOUR: 'it returns false'. Refute it at one input. -/
def fnQuietWrong : ChangeSpec := { name := "fnQuiet", fn := fun _ => fun
  | [d] => { results := [.lit (.bool false)], args := [d] }
  | _ => none }
def FnQuietWrongFalsely : Prop := fnQuietRow.holds Tryz.pinned (OpenSpec.ofChange fnQuietWrong)

/-- 'laws.FnExactParkedIn': WHATEVER THE INPUT: true; the input reads as it did. -/
def fnExactParkedInSpec : ChangeSpec := { name := "fnExactParkedIn", fn := fun _ => fun
  | [d] => { results := [.lit (.bool true)], args := [d] }
  | _ => none }
def fnExactParkedInRow : OpenClaim := { program := "ytffhjmepfojhnaagreat", sum := "4a05bc3e1cb9a084189d194bbe9cd0a5a86b34e83cfb1cff9121ec3d23c51278", func := "loop.example/g00794/laws.FnExactParkedIn", spec := "fnExactParkedIn", unfollowed := true, recurses := true, apart := false }
def FnExactParkedInSaid : Prop := fnExactParkedInRow.holds Tryz.pinned (OpenSpec.ofChange fnExactParkedInSpec)

/-- ITS FALSE NEIGHBOUR: 'it returns false'. Refute it at one input. -/
def fnExactParkedInWrong : ChangeSpec := { name := "fnExactParkedIn", fn := fun _ => fun
  | [d] => { results := [.lit (.bool false)], args := [d] }
  | _ => none }
def FnExactParkedInWrongFalsely : Prop := fnExactParkedInRow.holds Tryz.pinned (OpenSpec.ofChange fnExactParkedInWrong)

/-- 'laws.FnExactQuietIn': WHATEVER THE INPUT: true; the input reads as it did. -/
def fnExactQuietInSpec : ChangeSpec := { name := "fnExactQuietIn", fn := fun _ => fun
  | [d] => { results := [.lit (.bool true)], args := [d] }
  | _ => none }
def fnExactQuietInRow : OpenClaim := { program := "ytffhjmepfojhnaagreat", sum := "4a05bc3e1cb9a084189d194bbe9cd0a5a86b34e83cfb1cff9121ec3d23c51278", func := "loop.example/g00794/laws.FnExactQuietIn", spec := "fnExactQuietIn", unfollowed := true, recurses := true, apart := false }
def FnExactQuietInSaid : Prop := fnExactQuietInRow.holds Tryz.pinned (OpenSpec.ofChange fnExactQuietInSpec)

/-- ITS FALSE NEIGHBOUR: 'it returns false'. Refute it at one input. -/
def fnExactQuietInWrong : ChangeSpec := { name := "fnExactQuietIn", fn := fun _ => fun
  | [d] => { results := [.lit (.bool false)], args := [d] }
  | _ => none }
def FnExactQuietInWrongFalsely : Prop := fnExactQuietInRow.holds Tryz.pinned (OpenSpec.ofChange fnExactQuietInWrong)

/-- 'laws.FnExactFairIn': WHATEVER THE INPUT: true; the input reads as it did. -/
def fnExactFairInSpec : ChangeSpec := { name := "fnExactFairIn", fn := fun _ => fun
  | [d] => { results := [.lit (.bool true)], args := [d] }
  | _ => none }
def fnExactFairInRow : OpenClaim := { program := "ytffhjmepfojhnaagreat", sum := "4a05bc3e1cb9a084189d194bbe9cd0a5a86b34e83cfb1cff9121ec3d23c51278", func := "loop.example/g00794/laws.FnExactFairIn", spec := "fnExactFairIn", unfollowed := true, recurses := true, apart := false }
def FnExactFairInSaid : Prop := fnExactFairInRow.holds Tryz.pinned (OpenSpec.ofChange fnExactFairInSpec)

/-- ITS FALSE NEIGHBOUR: 'it returns false'. Refute it at one input. -/
def fnExactFairInWrong : ChangeSpec := { name := "fnExactFairIn", fn := fun _ => fun
  | [d] => { results := [.lit (.bool false)], args := [d] }
  | _ => none }
def FnExactFairInWrongFalsely : Prop := fnExactFairInRow.holds Tryz.pinned (OpenSpec.ofChange fnExactFairInWrong)

/- THE SECOND FORM. 'bulk': how many values and letters a reading holds, each counted each time it is reached (what is shared counts as often as it is met; a slice's spare places count too). A statement '..UptoSaid' is the law's where the arguments, and the package variables that the reading takes, are together of bulk at most 1048576: NARROWER than '..Said'. Prove '..Said' where nothing that the law and all that it calls make is longer than what came in: it says more and counts as full. Else prove '..UptoSaid'. A law counts once. -/
mutual
def uptoBulk {H : Type} : DataW H → Nat
  | .lit (.string bytes) => bytes.length + 1
  | .lit _ => 1
  | .nil => 1
  | .ptr d => uptoBulk d + 1
  | .slice elems spare => uptoBulkAll elems + uptoBulkAll spare + 1
  | .agg parts => uptoBulkAll parts + 1
  | .iface _ d => uptoBulk d + 1
  | .map entries => uptoBulkEntries entries + 1
  | .held _ => 1
def uptoBulkAll {H : Type} : List (DataW H) → Nat
  | [] => 0
  | d :: r => uptoBulk d + uptoBulkAll r
def uptoBulkEntries {H : Type} : List (Lit × DataW H) → Nat
  | [] => 0
  | x :: r => uptoBulkEntry x + uptoBulkEntries r
def uptoBulkEntry {H : Type} : Lit × DataW H → Nat
  | (.string bytes, d) => bytes.length + uptoBulk d + 1
  | (_, d) => uptoBulk d + 1
 end
def uptoSmall : (H : Type) → List (DataW H) → Bool := fun _ ds => decide (uptoBulkAll ds ≤ 1048576)
def OpenSpec.upto (s : _root_.Go.ChangeSpec) : _root_.Go.OpenSpec := { _root_.Go.OpenSpec.ofChange s with cond := some uptoSmall }

/-- 'laws.FnRoom', WHERE WHAT IT READS IS OF BULK AT MOST 1048576: true; the input reads as it did. -/
def fnRoomUptoRow : OpenClaim := { program := "ytffhjmepfojhnaagreat", sum := "4a05bc3e1cb9a084189d194bbe9cd0a5a86b34e83cfb1cff9121ec3d23c51278", func := "loop.example/g00794/laws.FnRoom", spec := "fnRoom", unfollowed := true, recurses := true, apart := false, narrowed := true }
def FnRoomUptoSaid : Prop := fnRoomUptoRow.holds Tryz.pinned (OpenSpec.upto fnRoomSpec)

/-- 'laws.FnStops', WHERE WHAT IT READS IS OF BULK AT MOST 1048576: true; the input reads as it did. -/
def fnStopsUptoRow : OpenClaim := { program := "ytffhjmepfojhnaagreat", sum := "4a05bc3e1cb9a084189d194bbe9cd0a5a86b34e83cfb1cff9121ec3d23c51278", func := "loop.example/g00794/laws.FnStops", spec := "fnStops", unfollowed := true, recurses := true, apart := false, narrowed := true }
def FnStopsUptoSaid : Prop := fnStopsUptoRow.holds Tryz.pinned (OpenSpec.upto fnStopsSpec)

/-- 'laws.FnQuiet', WHERE WHAT IT READS IS OF BULK AT MOST 1048576: true; the input reads as it did. -/
def fnQuietUptoRow : OpenClaim := { program := "ytffhjmepfojhnaagreat", sum := "4a05bc3e1cb9a084189d194bbe9cd0a5a86b34e83cfb1cff9121ec3d23c51278", func := "loop.example/g00794/laws.FnQuiet", spec := "fnQuiet", unfollowed := true, recurses := true, apart := false, narrowed := true }
def FnQuietUptoSaid : Prop := fnQuietUptoRow.holds Tryz.pinned (OpenSpec.upto fnQuietSpec)

/-- 'laws.FnExactParkedIn', WHERE WHAT IT READS IS OF BULK AT MOST 1048576: true; the input reads as it did. -/
def fnExactParkedInUptoRow : OpenClaim := { program := "ytffhjmepfojhnaagreat", sum := "4a05bc3e1cb9a084189d194bbe9cd0a5a86b34e83cfb1cff9121ec3d23c51278", func := "loop.example/g00794/laws.FnExactParkedIn", spec := "fnExactParkedIn", unfollowed := true, recurses := true, apart := false, narrowed := true }
def FnExactParkedInUptoSaid : Prop := fnExactParkedInUptoRow.holds Tryz.pinned (OpenSpec.upto fnExactParkedInSpec)

/-- 'laws.FnExactQuietIn', WHERE WHAT IT READS IS OF BULK AT MOST 1048576: true; the input reads as it did. -/
def fnExactQuietInUptoRow : OpenClaim := { program := "ytffhjmepfojhnaagreat", sum := "4a05bc3e1cb9a084189d194bbe9cd0a5a86b34e83cfb1cff9121ec3d23c51278", func := "loop.example/g00794/laws.FnExactQuietIn", spec := "fnExactQuietIn", unfollowed := true, recurses := true, apart := false, narrowed := true }
def FnExactQuietInUptoSaid : Prop := fnExactQuietInUptoRow.holds Tryz.pinned (OpenSpec.upto fnExactQuietInSpec)

/-- 'laws.FnExactFairIn', WHERE WHAT IT READS IS OF BULK AT MOST 1048576: true; the input reads as it did. -/
def fnExactFairInUptoRow : OpenClaim := { program := "ytffhjmepfojhnaagreat", sum := "4a05bc3e1cb9a084189d194bbe9cd0a5a86b34e83cfb1cff9121ec3d23c51278", func := "loop.example/g00794/laws.FnExactFairIn", spec := "fnExactFairIn", unfollowed := true, recurses := true, apart := false, narrowed := true }
def FnExactFairInUptoSaid : Prop := fnExactFairInUptoRow.holds Tryz.pinned (OpenSpec.upto fnExactFairInSpec)

end Rows
end Go.Proofs.YtffhjmepfojhnaaGreat
