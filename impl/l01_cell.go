package impl

const MaxElem = 999
const MaxWords = 80
const MaxCells = 40

// Untyped, because a Cell keeps its State as an int64.
const (
	CsNone = iota
	CsIn
	CsKept
	CsSend
	CsRecv
	CsCall
	CsGrow
	CsDone
	CsPoison
	CsGoneSend
	CsGoneRecv
)

type Cell struct {
	State  int64
	Elem   int64
	Waiter int64
}

// cellState carries the methods that the int64 of a Cell's State can't have.
type cellState int64

// String is empty for a number that is no state: what has no name is not right.
func (s cellState) String() string {
	switch s {
	case CsNone:
		return "none"
	case CsIn:
		return "in"
	case CsKept:
		return "kept"
	case CsSend:
		return "send"
	case CsRecv:
		return "recv"
	case CsCall:
		return "call"
	case CsGrow:
		return "grow"
	case CsDone:
		return "done"
	case CsPoison:
		return "poison"
	case CsGoneSend:
		return "gone send"
	case CsGoneRecv:
		return "gone recv"
	}
	return ""
}

func (s cellState) isLive() bool {
	return s == CsKept || s == CsSend || s == CsRecv
}

func inRange(n int64, most int64) bool { return n >= 0 && n <= most }

func CellOk(c Cell) bool {
	return cellState(c.State).String() != "" && inRange(c.Elem, MaxElem) && inRange(c.Waiter, MaxWords)
}

func Laid(c Cell, elem int64) Cell {
	if !CellOk(c) || !inRange(elem, MaxElem) {
		return c
	}
	c.Elem = elem
	return c
}

func Turned(c Cell, from int64, to int64, waiter int64) (Cell, bool) {
	turned := Cell{State: to, Elem: c.Elem, Waiter: waiter}
	// The cell is asked for by itself too: a wrong Waiter would be gone from the turned one.
	if c.State != from || !CellOk(c) || !CellOk(turned) {
		return c, false
	}
	return turned, true
}

func LiveIn(cells []Cell) int64 {
	if len(cells) > MaxCells {
		return -1
	}
	live := int64(0)
	for _, c := range cells {
		if !CellOk(c) {
			return -1
		}
		if cellState(c.State).isLive() {
			live++
		}
	}
	return live
}
