package tests

import (
	"math"
	"slices"
	"testing"

	"loop.example/g00794/impl"
)

const statesInAll = 11

// outOf lists numbers that are no count up to most, and around what a narrower integer would wrap at.
func outOf(most int64) []int64 {
	return []int64{-1, -2, math.MinInt64, most + 1, most + 2, 1 << 8, 1 << 16, 1 << 32, math.MaxInt64}
}

// wrongCells lists cells with just one field that is not right.
func wrongCells() []impl.Cell {
	var list []impl.Cell
	for _, n := range outOf(impl.CsGoneRecv) {
		list = append(list, impl.Cell{State: n, Elem: 5, Waiter: 6})
	}
	for _, n := range []int64{-1, math.MinInt64, impl.MaxElem + 1, 1 << 16, 1 << 32, math.MaxInt64} {
		list = append(list, impl.Cell{State: impl.CsSend, Elem: n, Waiter: 6})
	}
	for _, n := range outOf(impl.MaxWords) {
		list = append(list, impl.Cell{State: impl.CsSend, Elem: 5, Waiter: n})
	}
	return list
}

func TestCellNumbers(t *testing.T) {
	states := []int64{
		impl.CsNone, impl.CsIn, impl.CsKept, impl.CsSend, impl.CsRecv, impl.CsCall,
		impl.CsGrow, impl.CsDone, impl.CsPoison, impl.CsGoneSend, impl.CsGoneRecv,
	}
	for i, s := range states {
		if s != int64(i) {
			t.Errorf("state %d is %d", i, s)
		}
	}
	if len(states) != statesInAll || impl.MaxElem != 999 || impl.MaxWords != 80 || impl.MaxCells != 40 {
		t.Error("a limit is not the document's")
	}
}

func TestCellOk(t *testing.T) {
	for s := int64(0); s < statesInAll; s++ {
		for _, e := range []int64{0, 1, 500, impl.MaxElem} {
			for _, w := range []int64{0, 1, 40, impl.MaxWords} {
				if c := (impl.Cell{State: s, Elem: e, Waiter: w}); !impl.CellOk(c) {
					t.Errorf("%v is refused", c)
				}
			}
		}
	}
	for _, c := range wrongCells() {
		if impl.CellOk(c) {
			t.Errorf("%v is accepted", c)
		}
	}
}

func TestLaid(t *testing.T) {
	for s := int64(0); s < statesInAll; s++ {
		c := impl.Cell{State: s, Elem: 7, Waiter: impl.MaxWords}
		for _, e := range []int64{0, 7, impl.MaxElem} {
			if x := impl.Laid(c, e); x != (impl.Cell{State: s, Elem: e, Waiter: impl.MaxWords}) {
				t.Errorf("Laid(%v, %d) is %v", c, e, x)
			}
		}
		for _, e := range []int64{-1, math.MinInt64, impl.MaxElem + 1, math.MaxInt64} {
			if x := impl.Laid(c, e); x != c {
				t.Errorf("Laid(%v, %d) is %v", c, e, x)
			}
		}
	}
}

// A wrong Elem is not mended by what is laid over it.
func TestLaidOnWrongCell(t *testing.T) {
	for _, c := range wrongCells() {
		for _, e := range []int64{0, 9, impl.MaxElem, -1, impl.MaxElem + 1} {
			if x := impl.Laid(c, e); x != c {
				t.Errorf("Laid(%v, %d) is %v", c, e, x)
			}
		}
	}
}

// Promise 1.
func TestTurnedOnlyFromWhatWasSeen(t *testing.T) {
	for s := int64(0); s < statesInAll; s++ {
		c := impl.Cell{State: s, Elem: 12, Waiter: 3}
		for from := int64(-1); from <= statesInAll; from++ {
			for to := int64(0); to < statesInAll; to++ {
				want, can := c, from == s
				if can {
					want = impl.Cell{State: to, Elem: 12, Waiter: 4}
				}
				if x, is := impl.Turned(c, from, to, 4); x != want || is != can {
					t.Errorf("Turned(%v, %d, %d, 4) is %v, %v", c, from, to, x, is)
				}
			}
		}
	}
}

// Promise 1: of two who saw the same, the second one is too late.
func TestTurnedOnce(t *testing.T) {
	c := impl.Cell{State: impl.CsNone, Elem: 31}
	first, is := impl.Turned(c, impl.CsNone, impl.CsSend, 2)
	if want := (impl.Cell{State: impl.CsSend, Elem: 31, Waiter: 2}); !is || first != want {
		t.Fatalf("the first one made %v, %v", first, is)
	}
	if second, is := impl.Turned(first, impl.CsNone, impl.CsRecv, 5); is || second != first {
		t.Fatalf("the second one made %v, %v", second, is)
	}
}

func TestTurnedLimits(t *testing.T) {
	c := impl.Cell{State: impl.CsSend, Elem: impl.MaxElem, Waiter: 3}
	for _, w := range []int64{0, impl.MaxWords} {
		want := impl.Cell{State: impl.CsGoneRecv, Elem: impl.MaxElem, Waiter: w}
		if x, is := impl.Turned(c, impl.CsSend, impl.CsGoneRecv, w); !is || x != want {
			t.Errorf("waiter %d: %v, %v", w, x, is)
		}
	}
	for _, w := range outOf(impl.MaxWords) {
		if x, is := impl.Turned(c, impl.CsSend, impl.CsKept, w); is || x != c {
			t.Errorf("waiter %d: %v, %v", w, x, is)
		}
	}
	for _, to := range outOf(impl.CsGoneRecv) {
		if x, is := impl.Turned(c, impl.CsSend, to, 0); is || x != c {
			t.Errorf("to %d: %v, %v", to, x, is)
		}
	}
}

// A wrong State or Waiter is not mended by the turn that would replace it.
func TestTurnedWrongCell(t *testing.T) {
	for _, c := range wrongCells() {
		for to := int64(0); to < statesInAll; to++ {
			if x, is := impl.Turned(c, c.State, to, 0); is || x != c {
				t.Errorf("Turned(%v, %d, %d, 0) is %v, %v", c, c.State, to, x, is)
			}
		}
	}
}

func TestLiveIn(t *testing.T) {
	for s := int64(0); s < statesInAll; s++ {
		want := int64(0)
		if s == impl.CsKept || s == impl.CsSend || s == impl.CsRecv {
			want = 1
		}
		if n := impl.LiveIn([]impl.Cell{{State: s, Elem: 1, Waiter: 1}}); n != want {
			t.Errorf("state %d: %d", s, n)
		}
	}
	mixed := []impl.Cell{{State: impl.CsKept}, {State: impl.CsDone}, {State: impl.CsRecv, Waiter: 1}, {}, {State: impl.CsSend, Waiter: 2}, {State: impl.CsSend, Waiter: 3}}
	if n := impl.LiveIn(mixed); n != 4 {
		t.Errorf("mixed: %d", n)
	}
	if impl.LiveIn(nil) != 0 || impl.LiveIn([]impl.Cell{}) != 0 {
		t.Error("no cells: not 0")
	}
}

func TestLiveInLimits(t *testing.T) {
	full := slices.Repeat([]impl.Cell{{State: impl.CsKept, Elem: 2}}, impl.MaxCells+1)
	if n := impl.LiveIn(full[:impl.MaxCells]); n != impl.MaxCells {
		t.Errorf("as many as may be: %d", n)
	}
	if n := impl.LiveIn(full); n != -1 {
		t.Errorf("one more: %d", n)
	}
	if n := impl.LiveIn(make([]impl.Cell, 5000)); n != -1 {
		t.Errorf("many: %d", n)
	}
	for _, c := range wrongCells() {
		for _, at := range []int{0, 17, impl.MaxCells - 1} {
			list := slices.Clone(full[:impl.MaxCells])
			list[at] = c
			if n := impl.LiveIn(list); n != -1 {
				t.Errorf("%v at %d: %d", c, at, n)
			}
		}
	}
}

// Promise 19: whatever is given, there is an answer, and one that keeps to its kind.
func TestCellsAnswerAtEveryArgument(t *testing.T) {
	odd := []int64{math.MinInt64, math.MinInt64 + 1, -1 << 32, -1, 0, 1, 10, 11, 80, 81, 999, 1000, 1 << 32, math.MaxInt64 - 1, math.MaxInt64}
	for _, s := range odd {
		for _, e := range odd {
			for _, w := range odd {
				c := impl.Cell{State: s, Elem: e, Waiter: w}
				ok := s >= 0 && s <= 10 && e >= 0 && e <= 999 && w >= 0 && w <= 80
				if impl.CellOk(c) != ok || (impl.LiveIn([]impl.Cell{c}) == -1) == ok {
					t.Fatalf("%v: is it right?", c)
				}
				checkOddTurns(t, c, odd)
			}
		}
	}
}

func checkOddTurns(t *testing.T, c impl.Cell, odd []int64) {
	t.Helper()
	for _, n := range odd {
		if x := impl.Laid(c, n); x.State != c.State || x.Waiter != c.Waiter || impl.CellOk(x) != impl.CellOk(c) {
			t.Fatalf("Laid(%v, %d) is %v", c, n, x)
		}
		for _, waiter := range odd {
			want := impl.Cell{State: n, Elem: c.Elem, Waiter: waiter}
			can := impl.CellOk(c) && impl.CellOk(want)
			if !can {
				want = c
			}
			if x, is := impl.Turned(c, c.State, n, waiter); x != want || is != can {
				t.Fatalf("Turned(%v, %d, %d, %d) is %v, %v", c, c.State, n, waiter, x, is)
			}
		}
	}
}

// Promise 19: arguments stay, and the room behind them too.
func TestLiveInLeavesItsArgument(t *testing.T) {
	room := make([]impl.Cell, impl.MaxCells)
	for i := range room {
		room[i] = impl.Cell{State: int64(i % statesInAll), Elem: int64(i), Waiter: int64(i)}
	}
	before := slices.Clone(room)
	for n := range room {
		impl.LiveIn(room[:n])
	}
	if !slices.Equal(room, before) {
		t.Error("the cells were written to")
	}
}
