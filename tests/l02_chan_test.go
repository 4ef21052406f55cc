package tests

import (
	"fmt"
	"math"
	"reflect"
	"slices"
	"testing"

	"loop.example/g00794/impl"
)

// fullChan is right and meets every limit exactly.
func fullChan() impl.Chan {
	c := impl.Chan{Cap: impl.MaxCap, Sent: impl.MaxCells, Got: impl.MaxCells, End: impl.MaxCells}
	for i := int64(0); i < impl.MaxCells; i++ {
		c.Cells = append(c.Cells, impl.Cell{State: i % statesInAll, Elem: impl.MaxElem - i, Waiter: impl.MaxWords - i})
	}
	for i := int64(0); i < impl.MaxWords; i++ {
		c.Words = append(c.Words, i%3)
	}
	return c
}

// sameChan takes nil and an empty list for the same.
func sameChan(a, b impl.Chan) bool {
	return a.Cap == b.Cap && a.Sent == b.Sent && a.Got == b.Got && a.End == b.End &&
		slices.Equal(a.Cells, b.Cells) && slices.Equal(a.Words, b.Words)
}

func cloneChan(c impl.Chan) impl.Chan {
	c.Cells = slices.Clone(c.Cells)
	c.Words = slices.Clone(c.Words)
	return c
}

// wrongChans lists channels with just one thing that is not right, by what that is.
func wrongChans() map[string]impl.Chan {
	list := map[string]impl.Chan{"zero": {}}
	put := func(name string, change func(c *impl.Chan)) {
		c := fullChan()
		change(&c)
		list[name] = c
	}
	for _, n := range outOf(impl.MaxCap) {
		put(fmt.Sprint("Cap ", n), func(c *impl.Chan) { c.Cap = n })
	}
	for _, n := range outOf(impl.MaxCells) {
		put(fmt.Sprint("Sent ", n), func(c *impl.Chan) { c.Sent = n })
		put(fmt.Sprint("Got ", n), func(c *impl.Chan) { c.Got = n })
		put(fmt.Sprint("End ", n), func(c *impl.Chan) { c.End = n })
	}
	for _, n := range []int{0, 1, impl.MaxCells - 1} {
		put(fmt.Sprint(n, " cells"), func(c *impl.Chan) { c.Cells = c.Cells[:n] })
	}
	for _, n := range []int{impl.MaxCells + 1, 2 * impl.MaxCells, 5000} {
		put(fmt.Sprint(n, " cells"), func(c *impl.Chan) { c.Cells = append(c.Cells, make([]impl.Cell, n-impl.MaxCells)...) })
	}
	for _, n := range []int{impl.MaxWords + 1, 2 * impl.MaxWords, 5000} {
		put(fmt.Sprint(n, " words"), func(c *impl.Chan) { c.Words = append(c.Words, make([]int64, n-impl.MaxWords)...) })
	}
	for _, at := range []int{0, 17, impl.MaxCells - 1} {
		for _, cell := range wrongCells() {
			put(fmt.Sprint("cell ", at, " ", cell), func(c *impl.Chan) { c.Cells[at] = cell })
		}
	}
	for _, at := range []int{0, 33, impl.MaxWords - 1} {
		for _, n := range outOf(impl.WdStopped) {
			put(fmt.Sprint("word ", at, " ", n), func(c *impl.Chan) { c.Words[at] = n })
		}
	}
	return list
}

// checkSilent says what is answered where the channel is not right.
func checkSilent(t *testing.T, name string, c impl.Chan) {
	t.Helper()
	if impl.ChanOk(c) {
		t.Errorf("%s: it is accepted", name)
	}
	if n := impl.KeptIn(c); len(n) != 0 {
		t.Errorf("%s: kept are %v", name, n)
	}
	for state := int64(-1); state <= statesInAll; state++ {
		if n := impl.WaitingIn(c, state); len(n) != 0 {
			t.Errorf("%s: of state %d are %v", name, state, n)
		}
	}
}

// Promise 2.
func TestNewChanIsRightAndHasNothing(t *testing.T) {
	if impl.MaxCap != 4 {
		t.Error("a limit is not the document's")
	}
	for n := int64(0); n <= impl.MaxCap; n++ {
		c := impl.NewChan(n)
		want := impl.Chan{Cap: n, End: n, Cells: make([]impl.Cell, impl.MaxCells)}
		if !sameChan(c, want) || !impl.ChanOk(c) {
			t.Errorf("%d: %v", n, c)
		}
		if kept := impl.KeptIn(c); len(kept) != 0 {
			t.Errorf("%d: kept are %v", n, kept)
		}
		for state := int64(1); state < statesInAll; state++ {
			if at := impl.WaitingIn(c, state); len(at) != 0 {
				t.Errorf("%d: of state %d are %v", n, state, at)
			}
		}
		if at := impl.WaitingIn(c, impl.CsNone); len(at) != impl.MaxCells {
			t.Errorf("%d: nobody was at %v", n, at)
		}
	}
}

func TestNewChanOutOfRange(t *testing.T) {
	for _, n := range outOf(impl.MaxCap) {
		if c := impl.NewChan(n); !sameChan(c, impl.Chan{}) {
			t.Errorf("%d: %v", n, c)
		}
	}
}

func TestChanOkLimits(t *testing.T) {
	if !impl.ChanOk(fullChan()) {
		t.Fatal("a full one is refused")
	}
	for name, c := range wrongChans() {
		checkSilent(t, name, c)
	}
}

// The counters need not fit together: each is asked for by itself.
func TestChanOkCounters(t *testing.T) {
	for _, n := range []int64{0, 1, 20, impl.MaxCells} {
		for _, m := range []int64{0, 1, 20, impl.MaxCells} {
			c := impl.NewChan(0)
			c.Sent, c.Got = n, m
			d := impl.NewChan(impl.MaxCap)
			d.Got, d.End = n, m
			if !impl.ChanOk(c) || !impl.ChanOk(d) {
				t.Errorf("%d and %d are refused", n, m)
			}
		}
	}
}

// A Waiter may be as many as the words are, and not one more.
func TestChanOkWaiters(t *testing.T) {
	for words := 0; words <= impl.MaxWords; words++ {
		for _, at := range []int{0, 20, impl.MaxCells - 1} {
			for state := int64(0); state < statesInAll; state++ {
				c := impl.NewChan(2)
				c.Words = make([]int64, words)
				c.Cells[at] = impl.Cell{State: state, Waiter: int64(words)}
				if !impl.ChanOk(c) {
					t.Errorf("%d words: waiter %d is refused", words, words)
				}
				c.Cells[at].Waiter++
				if impl.ChanOk(c) {
					t.Errorf("%d words: waiter %d is accepted", words, words+1)
				}
			}
		}
	}
}

func TestKeptIn(t *testing.T) {
	c := impl.NewChan(1)
	c.Cells[39] = impl.Cell{State: impl.CsKept, Elem: 5}
	c.Cells[0] = impl.Cell{State: impl.CsKept, Elem: impl.MaxElem}
	c.Cells[7] = impl.Cell{State: impl.CsKept, Elem: 5}
	c.Cells[8] = impl.Cell{State: impl.CsSend, Elem: 6}
	c.Cells[20] = impl.Cell{State: impl.CsKept}
	if kept := impl.KeptIn(c); !slices.Equal(kept, []int64{impl.MaxElem, 5, 0, 5}) {
		t.Errorf("kept are %v", kept)
	}
	for i := range c.Cells {
		c.Cells[i] = impl.Cell{State: impl.CsKept, Elem: int64(100 - i)}
	}
	if kept := impl.KeptIn(c); len(kept) != impl.MaxCells || kept[0] != 100 || kept[39] != 61 {
		t.Errorf("all: kept are %v", kept)
	}
}

// Of each state, the cells of that state and no others are told.
func TestWaitingIn(t *testing.T) {
	c := fullChan()
	for state := int64(0); state < statesInAll; state++ {
		var want, elems []int64
		for i, cell := range c.Cells {
			if cell.State == state {
				want = append(want, int64(i))
				elems = append(elems, cell.Elem)
			}
		}
		if at := impl.WaitingIn(c, state); len(want) == 0 || !slices.Equal(at, want) {
			t.Errorf("of state %d are %v, not %v", state, at, want)
		}
		if kept := impl.KeptIn(c); state == impl.CsKept && !slices.Equal(kept, elems) {
			t.Errorf("kept are %v, not %v", kept, elems)
		}
	}
	for _, state := range outOf(impl.CsGoneRecv) {
		if at := impl.WaitingIn(c, state); len(at) != 0 {
			t.Errorf("of state %d are %v", state, at)
		}
	}
}

// Promise 19: whatever is given, there is an answer.
func TestChansAnswerAtEveryArgument(t *testing.T) {
	odd := []int64{math.MinInt64, -1 << 32, -1, 0, 1, 4, 5, 40, 41, 80, 81, 1 << 32, math.MaxInt64}
	for _, n := range odd {
		if impl.ChanOk(impl.NewChan(n)) != (n >= 0 && n <= 4) {
			t.Errorf("NewChan(%d): is it right?", n)
		}
		for _, m := range odd {
			c := fullChan()
			c.Cap, c.Sent, c.Got, c.End = n, m, m, m
			if impl.ChanOk(c) != (n >= 0 && n <= 4 && m >= 0 && m <= 40) {
				t.Errorf("%d and %d: is it right?", n, m)
			}
			impl.KeptIn(c)
			impl.WaitingIn(c, m)
		}
	}
	for words := range 100 {
		for cells := range 60 {
			c := impl.Chan{Cells: make([]impl.Cell, cells), Words: make([]int64, words)}
			if impl.ChanOk(c) != (cells == 40 && words <= 80) {
				t.Errorf("%d cells and %d words: is it right?", cells, words)
			}
		}
	}
}

// Promise 19: two new channels share nothing, and who writes into an answer writes into no argument.
func TestChansAreNewMemory(t *testing.T) {
	a, b := impl.NewChan(3), impl.NewChan(3)
	for i := range a.Cells {
		a.Cells[i] = impl.Cell{State: impl.CsKept, Elem: 8}
	}
	a.Words = append(a.Words, 1, 2)
	if !sameChan(b, impl.NewChan(3)) || !sameChan(b, impl.Chan{Cap: 3, End: 3, Cells: make([]impl.Cell, impl.MaxCells)}) {
		t.Error("two new ones share their memory")
	}
	c := fullChan()
	before := cloneChan(c)
	lists := [][]int64{impl.KeptIn(c), impl.KeptIn(c), impl.WaitingIn(c, impl.CsKept), impl.WaitingIn(c, impl.CsKept)}
	want := [][]int64{impl.KeptIn(c), impl.KeptIn(c), impl.WaitingIn(c, impl.CsKept), impl.WaitingIn(c, impl.CsKept)}
	for i := range lists {
		for k := range lists[i] {
			lists[i][k] = -7
		}
		lists[i] = append(lists[i], -8)
		for k := i + 1; k < len(lists); k++ {
			if !slices.Equal(lists[k], want[k]) {
				t.Errorf("answers %d and %d share their memory", i, k)
			}
		}
	}
	if !reflect.DeepEqual(c, before) {
		t.Error("an answer shares its memory with the argument")
	}
}

// Promise 19: arguments stay, and the room behind them too.
func TestChansLeaveTheirArguments(t *testing.T) {
	wide := fullChan()
	wide.Cells = append(wide.Cells, impl.Cell{State: 77, Elem: 78, Waiter: 79})
	wide.Words = append(wide.Words, 76)
	before := cloneChan(wide)
	c := wide
	c.Cells, c.Words = wide.Cells[:impl.MaxCells], wide.Words[:impl.MaxWords]
	if !impl.ChanOk(c) {
		t.Error("it is refused for what is behind it")
	}
	impl.KeptIn(c)
	for state := int64(-1); state <= statesInAll; state++ {
		impl.WaitingIn(c, state)
		impl.WaitingIn(wide, state)
	}
	impl.KeptIn(wide)
	if !reflect.DeepEqual(wide, before) {
		t.Error("an argument was written to")
	}
}
