/-
  What the document's functions of chapters 4 and 5 compute, as plain functions on numbers; no condition.
-/
import Derived.Test.YtkfdbpmnbbhpeaaModel
set_option linter.unusedSimpArgs false
set_option linter.unusedVariables false
namespace Go.Proofs.Ytkfdbpmnbbhpeaa
def callOk (k e : Int) : Bool := (k == 1 && inB e 0 999) || (k == 2 && e == 0)
def replyOk (k e r : Int) : Bool := callOk k e && (inB r 1 4 && ((k == 1 || r != 1) && (k == 2 || r != 2)))
def noCall (k e : Int) : Bool := k == 0 && e == 0
def handA (h : Ha) : Bool := inB h.pos 0 25 && (if h.pos == 0 then noCall h.code h.elem else callOk h.code h.elem)
def handB (h : Ha) : Bool := inB h.cell 0 39 && (inB h.grow 0 39 && (inB h.seen 0 10 && (inB h.wait 0 80 && inB h.mine 0 80)))
def handC (h : Ha) : Bool := inB h.fin 0 40 && (inB h.come 0 40 && (inB h.nxt 0 2 && (inB h.beg 0 20000 && (inB h.reply 0 4 && inB h.out 0 999))))
def handOk (h : Ha) : Bool := handA h && (handB h && handC h)
def resting (r o : Int) : Ha := ⟨0, 0, 0, 0, 0, 0, 0, 0, 0, 0, 0, 0, r, o⟩
def begun (k e b : Int) : Ha := ⟨if k == 2 then 9 else 1, k, e, 0, 0, 0, 0, 0, 0, 0, 0, b, 0, 0⟩
/-- What is answered to a call, and the code. -/
def called (h : Ha) (k e : Int) : Ha × Int := if handOk h then (if h.pos == 0 then (if callOk k e then (begun k e 0, 0) else (h, 2)) else (h, 1)) else (Ha.zero, 3)
end Go.Proofs.Ytkfdbpmnbbhpeaa
