/-
  What the document's functions of chapters 1 to 12 compute, as plain functions on numbers and lists; no condition.
-/
import Derived.Test.YtkfdbpmnbbhpeaaBase
set_option linter.unusedSimpArgs false
set_option linter.unusedVariables false
namespace Go.Proofs.Ytkfdbpmnbbhpeaa
structure Ch where
  cap : Int
  sent : Int
  got : Int
  fin : Int
  cells : List C3
  words : List Int
structure Ca where
  code : Int
  elem : Int
structure Ha where
  pos : Int
  code : Int
  elem : Int
  cell : Int
  seen : Int
  wait : Int
  fin : Int
  come : Int
  grow : Int
  mine : Int
  nxt : Int
  beg : Int
  reply : Int
  out : Int
def C3.zero : C3 := ⟨0, 0, 0⟩
def Ch.zero : Ch := ⟨0, 0, 0, 0, [], []⟩
def Ha.zero : Ha := ⟨0, 0, 0, 0, 0, 0, 0, 0, 0, 0, 0, 0, 0, 0⟩
/- Chapter 2 -/
def cellFits (m : Nat) (c : C3) : Bool := okC c && decide (c.t ≤ m)
def chanHead (c : Ch) : Bool := inB c.cap 0 4 && (inB c.sent 0 40 && (inB c.got 0 40 && (inB c.fin 0 40 && (decide (c.cells.length = 40) && decide (c.words.length ≤ 80)))))
def chanOk (c : Ch) : Bool := chanHead c && (c.cells.all (cellFits c.words.length) && c.words.all (fun x => inB x 0 2))
def newChan (cap : Int) : Ch := if inB cap 0 4 then ⟨cap, 0, 0, cap, List.replicate 40 C3.zero, []⟩ else Ch.zero
/-- The numbers from k on of the cells of that state. -/
def atFrom (st : Int) : Nat → List C3 → List Int
  | _, [] => []
  | k, c :: cs => if c.s == st then (k : Int) :: atFrom st (k + 1) cs else atFrom st (k + 1) cs
def atS (c : Ch) (st : Int) : List Int := atFrom st 0 c.cells
def keptIn (c : Ch) : List Int := if chanOk c then (atS c 2).map fun i => (c.cells.getD i.toNat C3.zero).e else []
def waitingIn (c : Ch) (st : Int) : List Int := if chanOk c then atS c st else []
/- Chapter 3 -/
def hasW (c : Ch) (w : Int) : Bool := inB w 1 c.words.length
def wordAt (c : Ch) (w : Int) : Int := c.words.getD (w - 1).toNat 0
def wordOf (c : Ch) (w : Int) : Int := if chanOk c && hasW c w then wordAt c w else -1
def tellB (c : Ch) (w word : Int) : Bool := hasW c w && (wordAt c w == 0 && inB word 1 2)
def tellC (c : Ch) (w word : Int) : Ch := if tellB c w word then { c with words := c.words.set (w - 1).toNat word } else c
end Go.Proofs.Ytkfdbpmnbbhpeaa
