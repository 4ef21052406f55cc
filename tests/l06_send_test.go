package tests

import (
	"math"
	"reflect"
	"slices"
	"testing"

	"loop.example/g00794/impl"
)

// stepFunc is how each chapter's step looks.
type stepFunc func(c impl.Chan, h impl.Hand) (impl.Chan, impl.Hand, bool)

// checkStep asks for just that channel and that hand, and that the arguments stay.
func checkStep(t *testing.T, step stepFunc, c impl.Chan, h impl.Hand, want impl.Chan, hand impl.Hand) {
	t.Helper()
	before := cloneChan(c)
	for range 2 { // and the same again
		x, y, is := step(c, h)
		if !is || y != hand || !sameChan(x, want) {
			t.Errorf("%+v: %+v, %v\nchannel %v\nnot     %+v\nchannel %v", h, y, is, x, hand, want)
		}
	}
	if !reflect.DeepEqual(c, before) {
		t.Errorf("%+v: it wrote to its argument", h)
	}
}

// checkRefused asks for the zero values and false, and that the arguments stay.
func checkRefused(t *testing.T, step stepFunc, c impl.Chan, h impl.Hand) {
	t.Helper()
	before := cloneChan(c)
	if x, y, is := step(c, h); is || y != (impl.Hand{}) || !sameChan(x, impl.Chan{}) {
		t.Errorf("%+v is not refused: %+v, %v\nchannel %v", h, y, is, x)
	}
	if !reflect.DeepEqual(c, before) {
		t.Errorf("%+v: it wrote to its argument", h)
	}
}

// busyChan is right; no two of its counters are alike, nor is one like a number of handAt. Waiter
// 12, who is that of handAt, waits, as do all from the 10th one on.
func busyChan() impl.Chan {
	c := worded(1, 2, 1, 2, 1, 2, 1, 2, 1, 0, 0, 0, 0, 0, 0, 0, 0, 0, 0, 0)
	c.Cap, c.Sent, c.Got, c.End = 3, 25, 26, 27
	return c
}

// withCell is the channel with that cell at a number.
func withCell(c impl.Chan, number int64, cell impl.Cell) impl.Chan {
	c = cloneChan(c)
	c.Cells[number] = cell
	return c
}

// withWord is the channel with one more word, 0.
func withWord(c impl.Chan) impl.Chan {
	c = cloneChan(c)
	c.Words = append(c.Words, 0)
	return c
}

// movedTo is the hand as it is, at another place.
func movedTo(h impl.Hand, at int64) impl.Hand {
	h.At = at
	return h
}

// sendAnew is the hand of a sender who begins again.
func sendAnew(h impl.Hand) impl.Hand {
	return impl.Hand{At: impl.AtSend, Call: h.Call, Begin: h.Begin}
}

// statesBut lists all states but those.
func statesBut(but ...int64) []int64 {
	var list []int64
	for state := int64(0); state < statesInAll; state++ {
		if !slices.Contains(but, state) {
			list = append(list, state)
		}
	}
	return list
}

func TestSendTakesANumber(t *testing.T) {
	for _, sent := range []int64{0, 1, 25, impl.MaxCells - 2, impl.MaxCells - 1} {
		c, h := busyChan(), handAt(impl.AtSend, aSend)
		c.Sent = sent
		want, hand := cloneChan(c), movedTo(h, impl.AtLay)
		want.Sent, hand.Cell = sent+1, sent
		checkStep(t, impl.SendStep, c, h, want, hand)
	}
}

func TestSendHasNoMoreCells(t *testing.T) {
	c := busyChan()
	c.Sent = impl.MaxCells
	checkStep(t, impl.SendStep, c, handAt(impl.AtSend, aSend), c, impl.Resting(impl.RpOver, 0))
	full, h := fullChan(), fullHand()
	h.At = impl.AtSend
	checkStep(t, impl.SendStep, full, h, full, impl.Resting(impl.RpOver, 0))
}

// The other counters at their ends are no matter to who takes a number.
func TestSendTakesANumberWhereOthersAreOver(t *testing.T) {
	c := fullChan()
	c.Sent = 0
	want := cloneChan(c)
	want.Sent = 1
	h := impl.Hand{At: impl.AtSend, Call: aSend}
	checkStep(t, impl.SendStep, c, h, want, impl.Hand{At: impl.AtLay, Call: aSend})
}

func TestSendLays(t *testing.T) {
	for _, state := range statesBut() {
		for _, number := range []int64{0, 11, impl.MaxCells - 1} {
			for _, elem := range []int64{0, 7, impl.MaxElem} {
				h := handAt(impl.AtLay, impl.Call{Code: impl.OpSend, Elem: elem})
				h.Cell = number
				c := withCell(busyChan(), number, impl.Cell{State: state, Elem: 500, Waiter: 12})
				want := withCell(c, number, impl.Cell{State: state, Elem: elem, Waiter: 12})
				checkStep(t, impl.SendStep, c, h, want, movedTo(h, impl.AtLook))
			}
		}
	}
}

// Whatever the hand saw before, it has then what is there, and goes where that leads.
func TestSendLooks(t *testing.T) {
	leads := map[int64]int64{impl.CsNone: impl.AtEnd, impl.CsIn: impl.AtPut, impl.CsRecv: impl.AtCall}
	for _, number := range []int64{0, 11, impl.MaxCells - 1} {
		for _, waiter := range []int64{0, 1, 19, 20} {
			for _, seen := range statesBut() {
				h := handAt(impl.AtLook, aSend)
				h.Cell, h.Seen = number, seen
				for state, at := range leads {
					c := withCell(busyChan(), number, impl.Cell{State: state, Elem: 8, Waiter: waiter})
					hand := movedTo(h, at)
					hand.Seen, hand.Waiter = state, waiter
					checkStep(t, impl.SendStep, c, h, c, hand)
				}
			}
		}
	}
}

func TestSendLooksAndGoesAnew(t *testing.T) {
	for _, state := range []int64{impl.CsPoison, impl.CsGoneRecv} {
		for _, begin := range []int64{0, 1, impl.MaxNow} {
			for _, number := range []int64{0, 11, impl.MaxCells - 1} {
				h := handAt(impl.AtLook, impl.Call{Code: impl.OpSend, Elem: impl.MaxElem})
				h.Begin, h.Cell = begin, number
				c := withCell(busyChan(), number, impl.Cell{State: state, Elem: 8, Waiter: 12})
				checkStep(t, impl.SendStep, c, h, c, sendAnew(h))
			}
		}
	}
}

// What may not stand there is refused, whatever was seen before.
func TestSendLooksAtWhatIsNotTold(t *testing.T) {
	for _, state := range statesBut(impl.CsNone, impl.CsIn, impl.CsRecv, impl.CsPoison, impl.CsGoneRecv) {
		for _, seen := range statesBut() {
			h := handAt(impl.AtLook, aSend)
			h.Seen = seen
			checkRefused(t, impl.SendStep, withCell(busyChan(), h.Cell, impl.Cell{State: state, Waiter: 12}), h)
		}
	}
}

func TestSendReadsTheCounters(t *testing.T) {
	for _, n := range []int64{0, 1, 27, impl.MaxCells} {
		for _, seen := range statesBut() {
			c, h := busyChan(), handAt(impl.AtEnd, aSend)
			c.End, h.Seen = n, seen
			hand := movedTo(h, impl.AtCome)
			hand.End = n
			checkStep(t, impl.SendStep, c, h, c, hand)
			c, h = busyChan(), movedTo(h, impl.AtCome)
			c.Got = n
			hand = movedTo(h, impl.AtPut)
			hand.Come = n
			checkStep(t, impl.SendStep, c, h, c, hand)
		}
	}
}

// putHand is at AtPut, with that cell and those counters.
func putHand(seen, number, come, end int64) impl.Hand {
	h := handAt(impl.AtPut, aSend)
	h.Seen, h.Cell, h.Come, h.End = seen, number, come, end
	return h
}

// rooms lists hands that have room, of what was seen: each limit is met just so.
func rooms(seen int64) []impl.Hand {
	list := []impl.Hand{
		putHand(seen, 0, 1, 0), putHand(seen, 0, 0, 1), putHand(seen, 0, 1, 1),
		putHand(seen, 11, 12, 0), putHand(seen, 11, 0, 12), putHand(seen, 11, 11, 12), putHand(seen, 11, 12, 11),
		putHand(seen, 39, 40, 0), putHand(seen, 39, 0, 40), putHand(seen, 0, 40, 40),
	}
	if seen == impl.CsIn { // which needs no counter
		list = append(list, fulls(seen)...)
	}
	return list
}

// fulls lists hands whose cell is past the buffer, and ahead of all receivers.
func fulls(seen int64) []impl.Hand {
	return []impl.Hand{
		putHand(seen, 0, 0, 0), putHand(seen, 11, 11, 11), putHand(seen, 11, 0, 11), putHand(seen, 11, 11, 0),
		putHand(seen, 39, 39, 39), putHand(seen, 39, 0, 0), putHand(seen, 12, 11, 10),
	}
}

func TestSendLeavesItWhereThereIsRoom(t *testing.T) {
	for _, seen := range []int64{impl.CsNone, impl.CsIn} {
		for _, h := range rooms(seen) {
			c := withCell(busyChan(), h.Cell, impl.Cell{State: seen, Elem: 8, Waiter: 12})
			want := withCell(c, h.Cell, impl.Cell{State: impl.CsKept, Elem: 8})
			checkStep(t, impl.SendStep, c, h, want, impl.Resting(impl.RpOk, 0))
		}
	}
}

// Who has room needs no Waiter, though there be none.
func TestSendLeavesItWithoutAWaiter(t *testing.T) {
	for _, seen := range []int64{impl.CsNone, impl.CsIn} {
		for _, h := range rooms(seen) {
			c := withCell(fullChan(), h.Cell, impl.Cell{State: seen, Elem: 8})
			want := withCell(c, h.Cell, impl.Cell{State: impl.CsKept, Elem: 8})
			checkStep(t, impl.SendStep, c, h, want, impl.Resting(impl.RpOk, 0))
		}
	}
}

// It is what the hand read that counts, not what the counters are by now.
func TestSendPutsByWhatItRead(t *testing.T) {
	for _, n := range []int64{0, impl.MaxCells} {
		c := withCell(busyChan(), 11, impl.Cell{Elem: 8})
		c.Sent, c.Got, c.End = n, n, n
		room := withCell(c, 11, impl.Cell{State: impl.CsKept, Elem: 8})
		checkStep(t, impl.SendStep, c, putHand(impl.CsNone, 11, 12, 0), room, impl.Resting(impl.RpOk, 0))
		h := putHand(impl.CsNone, 11, 11, 11)
		hand := movedTo(h, impl.AtPark)
		hand.Mine = 21
		full := withWord(withCell(c, 11, impl.Cell{State: impl.CsSend, Elem: 8, Waiter: 21}))
		checkStep(t, impl.SendStep, c, h, full, hand)
	}
}

// From the first Waiter on to the last one who can be had.
func TestSendParks(t *testing.T) {
	for _, words := range []int{0, 1, 20, impl.MaxWords - 2, impl.MaxWords - 1} {
		for _, h := range fulls(impl.CsNone) {
			mine := int64(words) + 1
			c := withCell(worded(fullChan().Words[:words]...), h.Cell, impl.Cell{Elem: 8, Waiter: int64(words)})
			hand := movedTo(h, impl.AtPark)
			hand.Mine = mine
			want := withWord(withCell(c, h.Cell, impl.Cell{State: impl.CsSend, Elem: 8, Waiter: mine}))
			checkStep(t, impl.SendStep, c, h, want, hand)
		}
	}
}

// That there is no Waiter is told first, be the cell as it was seen or not.
func TestSendHasNoMoreWaiters(t *testing.T) {
	for _, h := range fulls(impl.CsNone) {
		for _, state := range statesBut() {
			c := withCell(fullChan(), h.Cell, impl.Cell{State: state, Elem: 8, Waiter: 3})
			checkStep(t, impl.SendStep, c, h, c, impl.Resting(impl.RpOver, 0))
		}
	}
}

// A cell that is no more as it was seen is looked at again, and no Waiter is had.
func TestSendPutsWhatIsNoMoreAsSeen(t *testing.T) {
	for _, seen := range []int64{impl.CsNone, impl.CsIn} {
		hands := rooms(seen)
		if seen == impl.CsNone {
			hands = append(hands, fulls(seen)...)
		}
		for _, h := range hands {
			for _, state := range statesBut(seen) {
				for _, waiter := range []int64{0, 12, 20} {
					c := withCell(busyChan(), h.Cell, impl.Cell{State: state, Elem: 8, Waiter: waiter})
					checkStep(t, impl.SendStep, c, h, c, movedTo(h, impl.AtLook))
				}
			}
		}
	}
}

// The last Waiter is left to others where the cell can't be turned.
func TestSendLeavesTheLastWaiter(t *testing.T) {
	h := putHand(impl.CsNone, 11, 11, 11)
	for _, state := range statesBut(impl.CsNone) {
		c := withCell(worded(make([]int64, impl.MaxWords-1)...), 11, impl.Cell{State: state})
		checkStep(t, impl.SendStep, c, h, c, movedTo(h, impl.AtLook))
	}
}

// Who saw neither nothing nor the buffer can't put, be it as seen, with room, or over.
func TestSendPutsWhatCannotBeSeen(t *testing.T) {
	for _, seen := range statesBut(impl.CsNone, impl.CsIn) {
		for _, h := range append(rooms(seen), fulls(seen)...) {
			for _, state := range []int64{impl.CsNone, impl.CsIn, seen} {
				checkRefused(t, impl.SendStep, withCell(busyChan(), h.Cell, impl.Cell{State: state}), h)
				checkRefused(t, impl.SendStep, withCell(fullChan(), h.Cell, impl.Cell{State: state}), h)
			}
		}
	}
}

// checkCalls asks whom the hand's Waiter names to be called: each one who waits can be, and the hand
// is won then; who was told already, and whom there is not, can't be, and it is lost. No cell is asked.
func checkCalls(t *testing.T, step stepFunc, h impl.Hand, won, lost func(h impl.Hand) impl.Hand) {
	t.Helper()
	for _, words := range []int{0, 1, 2, 20, impl.MaxWords - 1, impl.MaxWords} {
		c := worded(make([]int64, words)...)
		for i := 2; i < words; i += 3 {
			c.Words[i-1], c.Words[i] = impl.WdCalled, impl.WdStopped
		}
		for w := int64(0); w <= impl.MaxWords; w++ {
			h.Waiter, h.Cell, h.Grow = w, w%impl.MaxCells, (w+20)%impl.MaxCells
			if w < 1 || w > int64(words) || c.Words[w-1] != 0 {
				checkStep(t, step, c, h, c, lost(h))
				continue
			}
			want := cloneChan(c)
			want.Words[w-1] = impl.WdCalled
			checkStep(t, step, c, h, want, won(h))
		}
	}
}

// goesTo is what becomes of a hand that only moves.
func goesTo(at int64) func(h impl.Hand) impl.Hand {
	return func(h impl.Hand) impl.Hand { return movedTo(h, at) }
}

func TestSendCalls(t *testing.T) {
	for _, begin := range []int64{0, 1, impl.MaxNow} {
		h := handAt(impl.AtCall, aSend)
		h.Begin = begin
		checkCalls(t, impl.SendStep, h, goesTo(impl.AtDone), sendAnew)
	}
}

func TestSendIsDone(t *testing.T) {
	for _, state := range statesBut() {
		for _, number := range []int64{0, 11, impl.MaxCells - 1} {
			h := handAt(impl.AtDone, aSend)
			h.Cell = number
			c := withCell(busyChan(), number, impl.Cell{State: state, Elem: 8, Waiter: 12})
			want := withCell(c, number, impl.Cell{State: impl.CsDone, Elem: 8, Waiter: 12})
			checkStep(t, impl.SendStep, c, h, want, impl.Resting(impl.RpOk, 0))
		}
	}
}

// doneAlone goes on till the hand is at one of those places, and tells the places it came by.
func doneAlone(t *testing.T, step stepFunc, c impl.Chan, call impl.Call, ends ...int64) (impl.Chan, impl.Hand, []int64) {
	t.Helper()
	h, _ := impl.Called(impl.Resting(0, 0), call)
	var places []int64
	for !slices.Contains(ends, h.At) {
		next, hand, is := step(c, h)
		if !is || len(places) > 200 {
			t.Fatalf("%+v: %v, after %v", h, is, places)
		}
		c, h, places = next, hand, append(places, hand.At)
	}
	return c, h, places
}

func sentAlone(t *testing.T, c impl.Chan, elem int64) (impl.Chan, impl.Hand, []int64) {
	t.Helper()
	return doneAlone(t, impl.SendStep, c, impl.Call{Code: impl.OpSend, Elem: elem}, impl.AtRest, impl.AtPark)
}

var (
	leaves = []int64{impl.AtLay, impl.AtLook, impl.AtEnd, impl.AtCome, impl.AtPut, impl.AtRest}
	parks  = []int64{impl.AtLay, impl.AtLook, impl.AtEnd, impl.AtCome, impl.AtPut, impl.AtPark}
)

// Promise 6: one after the other, all leave it while there is room, and each other one is parked.
func TestWhoSendsAlone(t *testing.T) {
	for cap := int64(0); cap <= impl.MaxCap; cap++ {
		c := impl.NewChan(cap)
		for n := int64(0); n < impl.MaxCells; n++ {
			want := withCell(c, n, impl.Cell{State: impl.CsKept, Elem: 100 + n})
			hand, way := impl.Resting(impl.RpOk, 0), leaves
			if n >= cap {
				mine := n - cap + 1
				want = withWord(withCell(c, n, impl.Cell{State: impl.CsSend, Elem: 100 + n, Waiter: mine}))
				hand = impl.Hand{At: impl.AtPark, Call: impl.Call{Code: impl.OpSend, Elem: 100 + n}, Cell: n, End: cap, Mine: mine}
				way = parks
			}
			want.Sent++
			x, h, places := sentAlone(t, c, 100+n)
			if !sameChan(x, want) || h != hand || !slices.Equal(places, way) {
				t.Fatalf("cap %d, sender %d: %+v by %v\nchannel %v\nnot     %v", cap, n, h, places, x, want)
			}
			c = x
		}
		if x, h, places := sentAlone(t, c, 5); !sameChan(x, c) || h != impl.Resting(impl.RpOver, 0) || len(places) != 1 {
			t.Fatalf("cap %d, one more: %+v by %v\nchannel %v", cap, h, places, x)
		}
	}
}

// Promise 6: there is room, too, where a receiver came who will take it.
func TestWhoSendsAloneToWhoCame(t *testing.T) {
	for got := int64(0); got <= impl.MaxCells; got++ {
		c := impl.NewChan(2)
		c.Got = got
		for n := int64(0); n < impl.MaxCells; n++ {
			x, h, places := sentAlone(t, c, n)
			state, way := int64(impl.CsKept), leaves
			if n >= got && n >= 2 {
				state, way = impl.CsSend, parks
			}
			if x.Cells[n].State != state || x.Cells[n].Elem != n || !slices.Equal(places, way) {
				t.Fatalf("%d came, sender %d: %+v by %v, %v", got, n, h, places, x.Cells[n])
			}
			c = x
		}
	}
}

// Promise 6: where there is no Waiter, who would have been parked is told that it is over.
func TestWhoSendsAloneWithoutAWaiter(t *testing.T) {
	for _, words := range []int{impl.MaxWords - 1, impl.MaxWords} {
		c := impl.NewChan(1)
		c.Words = make([]int64, words)
		c, h, _ := sentAlone(t, c, 3)
		if h != impl.Resting(impl.RpOk, 0) || len(c.Words) != words {
			t.Fatalf("%d words: %+v with room", words, h)
		}
		x, h, places := sentAlone(t, c, 4)
		if over := h == impl.Resting(impl.RpOver, 0); over != (words == impl.MaxWords) || len(x.Words) != impl.MaxWords {
			t.Fatalf("%d words: %+v by %v", words, h, places)
		}
		if x.Cells[1].State != impl.CsSend && x.Cells[1] != (impl.Cell{Elem: 4}) {
			t.Fatalf("%d words: the cell is %v", words, x.Cells[1])
		}
	}
}

// Who finds a receiver who waits calls him; who finds nobody who will take it goes on to the next cell.
func TestWhoSendsPastWhoIsGone(t *testing.T) {
	c := impl.NewChan(0)
	c.Got, c.Words = 5, []int64{0, 2, 0}
	c.Cells[0] = impl.Cell{State: impl.CsPoison}
	c.Cells[1] = impl.Cell{State: impl.CsGoneRecv, Waiter: 2}
	c.Cells[2] = impl.Cell{State: impl.CsRecv, Waiter: 2}
	c.Cells[3] = impl.Cell{State: impl.CsRecv, Waiter: 3}
	x, h, places := sentAlone(t, c, 6)
	want := cloneChan(c)
	want.Sent, want.Words = 4, []int64{0, 2, 1}
	for i := range 4 {
		want.Cells[i].Elem = 6
	}
	want.Cells[3].State = impl.CsDone
	way := []int64{
		impl.AtLay, impl.AtLook, impl.AtSend, impl.AtLay, impl.AtLook, impl.AtSend,
		impl.AtLay, impl.AtLook, impl.AtCall, impl.AtSend,
		impl.AtLay, impl.AtLook, impl.AtCall, impl.AtDone, impl.AtRest,
	}
	if h != impl.Resting(impl.RpOk, 0) || !slices.Equal(places, way) || !sameChan(x, want) {
		t.Errorf("%+v by %v\nchannel %v\nnot     %v", h, places, x, want)
	}
}

// Two senders by turns, in every order: the one of the first cell leaves it, the other one is parked.
func TestTwoSendersInAnyOrder(t *testing.T) {
	orders := 0
	for code := range 1 << 12 {
		c := impl.NewChan(1)
		hands := []impl.Hand{{At: impl.AtSend, Call: aSend}, {At: impl.AtSend, Call: impl.Call{Code: impl.OpSend, Elem: 8}}}
		steps := []int{0, 0}
		for n := range 12 {
			who := code >> n & 1
			if steps[who]++; steps[who] > 6 {
				break
			}
			is := false
			if c, hands[who], is = impl.SendStep(c, hands[who]); !is {
				t.Fatalf("order %b: no step %d", code, n)
			}
		}
		if steps[0] != 6 || steps[1] != 6 {
			continue
		}
		orders++
		first := code & 1
		if hands[first] != impl.Resting(impl.RpOk, 0) || hands[1-first].At != impl.AtPark ||
			!slices.Equal(c.Words, []int64{0}) || c.Sent != 2 ||
			c.Cells[0] != (impl.Cell{State: impl.CsKept, Elem: int64(7 + first)}) ||
			c.Cells[1] != (impl.Cell{State: impl.CsSend, Elem: int64(8 - first), Waiter: 1}) {
			t.Fatalf("order %b: %+v\nchannel %v", code, hands, c)
		}
	}
	if orders != 924 {
		t.Errorf("%d orders were tried", orders)
	}
}

// checkWrongChans asks that each channel that is not right is refused, wherever the hand is.
func checkWrongChans(t *testing.T, step stepFunc, call impl.Call) {
	t.Helper()
	for _, c := range wrongChans() {
		for at := int64(impl.AtSend); at <= impl.AtMark; at++ {
			for mine := int64(0); mine <= 3; mine++ { // each word, which only who is parked asks for
				checkRefused(t, step, c, impl.Hand{At: at, Call: call, Mine: mine})
			}
		}
		checkRefused(t, step, c, impl.Resting(0, 0))
	}
}

func TestSendStepOfWrongChans(t *testing.T) { checkWrongChans(t, impl.SendStep, aSend) }

// A step that would mend the channel is refused: it was not right before.
func TestSendStepMendsNothing(t *testing.T) {
	c := busyChan()
	c.Cells[11].Elem = -1
	checkRefused(t, impl.SendStep, c, handAt(impl.AtLay, aSend))
	c = withCell(busyChan(), 11, impl.Cell{State: impl.CsIn, Waiter: 21})
	checkRefused(t, impl.SendStep, c, handAt(impl.AtPut, aSend))
	c = withCell(busyChan(), 11, impl.Cell{Waiter: 21})
	checkRefused(t, impl.SendStep, c, putHand(impl.CsNone, 11, 0, 0))
	c = withCell(busyChan(), 11, impl.Cell{State: statesInAll})
	checkRefused(t, impl.SendStep, c, handAt(impl.AtDone, aSend))
	c = busyChan()
	c.Sent = -1
	checkRefused(t, impl.SendStep, c, handAt(impl.AtSend, aSend))
}

// checkWrongHands asks that each hand that is not right is refused, at each of those places too.
func checkWrongHands(t *testing.T, step stepFunc, c impl.Chan, from, to int64, call impl.Call) {
	t.Helper()
	for _, h := range wrongHands() {
		checkRefused(t, step, c, h)
		checkRefused(t, step, withCell(c, 11, impl.Cell{}), h)
	}
	for at := from; at <= to; at++ {
		for _, p := range handParts()[1:] {
			for _, n := range p.past() {
				h := handAt(at, call)
				p.put(&h, n)
				checkRefused(t, step, c, h)
			}
		}
	}
}

func TestSendStepOfWrongHands(t *testing.T) {
	c := withCell(busyChan(), 11, impl.Cell{State: impl.CsIn})
	checkWrongHands(t, impl.SendStep, c, impl.AtSend, impl.AtDone, aSend)
}

// checkOtherPlaces asks that a hand at rest has no step, nor has one whose place is none of those.
func checkOtherPlaces(t *testing.T, step stepFunc, from, to int64, call impl.Call) {
	t.Helper()
	for _, h := range restHands() {
		checkRefused(t, step, busyChan(), h)
	}
	for at := int64(impl.AtSend); at <= impl.AtMark; at++ {
		if at >= from && at <= to {
			continue
		}
		for _, state := range statesBut() {
			checkRefused(t, step, withCell(busyChan(), 11, impl.Cell{State: state}), handAt(at, call))
		}
	}
}

func TestSendStepAtOtherPlaces(t *testing.T) {
	checkOtherPlaces(t, impl.SendStep, impl.AtSend, impl.AtDone, aSend)
}

// checkAnotherCall asks that this Call is refused, whatever was seen, and is there.
func checkAnotherCall(t *testing.T, step stepFunc, call impl.Call) {
	t.Helper()
	for at := int64(impl.AtSend); at <= impl.AtMark; at++ {
		for _, state := range statesBut() {
			for _, seen := range statesBut() {
				h := handAt(at, call)
				h.Seen = seen
				checkRefused(t, step, withCell(busyChan(), 11, impl.Cell{State: state}), h)
			}
		}
	}
}

func TestSendStepOfAnotherCall(t *testing.T) { checkAnotherCall(t, impl.SendStep, aRecv) }

// stepCases lists right channels, and hands at each of those places with each of those Calls, all
// of which may be asked together.
func stepCases(from, to int64, calls ...impl.Call) ([]impl.Chan, []impl.Hand) {
	var chans []impl.Chan
	for _, words := range []int{0, 1, impl.MaxWords - 1, impl.MaxWords} {
		for _, n := range []int64{0, 1, impl.MaxCells - 1, impl.MaxCells} {
			for _, state := range statesBut() {
				c := worded(make([]int64, words)...)
				c.Sent, c.Got, c.End = n, n, n
				c.Cells[0] = impl.Cell{State: state, Elem: impl.MaxElem, Waiter: int64(words)}
				c.Cells[39] = impl.Cell{State: state}
				chans = append(chans, c)
			}
		}
	}
	var hands []impl.Hand
	for at := from; at <= to; at++ {
		for _, seen := range statesBut() {
			for _, call := range calls {
				for _, h := range []impl.Hand{handAt(at, call), fullHand(), {}} {
					h.At, h.Call, h.Seen = at, call, seen
					hands = append(hands, h)
				}
			}
		}
	}
	return chans, hands
}

func sendCases() ([]impl.Chan, []impl.Hand) {
	return stepCases(impl.AtSend, impl.AtDone, impl.Call{Code: impl.OpSend}, impl.Call{Code: impl.OpSend, Elem: impl.MaxElem})
}

// checkKind asks that there is an answer of the kind that is told: a step, which is right and goes
// on with its Call; or that it waits, with all as it is; or that it is refused, with zero values.
func checkKind(t *testing.T, step stepFunc, c impl.Chan, h impl.Hand, steps, waits bool) {
	t.Helper()
	x, y, is := step(c, h)
	if is != steps {
		t.Fatalf("%+v: %v\nchannel %v", h, is, c)
	}
	switch {
	case steps:
		if !impl.ChanOk(x) || !impl.HandOk(y) || y.At != impl.AtRest && (y.Call != h.Call || y.Begin != h.Begin) {
			t.Fatalf("%+v: %+v\nchannel %v", h, y, x)
		}
	case waits:
		if y != h || !sameChan(x, c) {
			t.Fatalf("%+v waits with %+v\nchannel %v\nnot     %v", h, y, x, c)
		}
	default:
		if y != (impl.Hand{}) || !sameChan(x, impl.Chan{}) {
			t.Fatalf("%+v is refused with %+v\nchannel %v", h, y, x)
		}
	}
}

// Promise 19: there is an answer, of its kind, whatever is seen and is there.
func TestSendStepAnswersAtEveryArgument(t *testing.T) {
	chans, hands := sendCases()
	for _, c := range chans {
		for _, h := range hands {
			told := h.At != impl.AtLook && h.At != impl.AtPut
			switch state := c.Cells[h.Cell].State; h.At {
			case impl.AtLook:
				told = slices.Contains([]int64{0, 1, 4, 8, 10}, state)
			case impl.AtPut:
				told = h.Seen <= 1
			}
			checkKind(t, impl.SendStep, c, h, told, false)
		}
	}
}

// oddNumbers are such as may be mistaken for others, and those next to limits.
func oddNumbers() []int64 {
	return []int64{
		math.MinInt64, math.MinInt64 + 1, -1 << 32, -1, 0, 1, 2, 8, 9, 15, 16, 25, 26, 39, 40, 41, 80, 81,
		1 << 32, 1<<32 + 1, 1<<32 + 2, math.MaxInt64 - 1, math.MaxInt64,
	}
}

// checkListLengths asks that only just as many cells, and not more than as many words, have a step.
func checkListLengths(t *testing.T, step stepFunc, from, to int64, call impl.Call) {
	t.Helper()
	for words := range 100 {
		for cells := range 60 {
			c := impl.Chan{Cells: make([]impl.Cell, cells), Words: make([]int64, words)}
			for at := from; at <= to; at++ {
				_, _, is := step(c, impl.Hand{At: at, Call: call})
				if is != (cells == 40 && words <= 80) {
					t.Fatalf("%d cells, %d words, at %d: %v", cells, words, at, is)
				}
			}
		}
	}
}

func TestSendStepOfOddNumbers(t *testing.T) {
	for _, n := range oddNumbers() {
		for _, m := range oddNumbers() {
			c := busyChan()
			c.Sent, c.Got, c.End = n, m, m
			h := handAt(impl.AtSend, aSend)
			if _, _, is := impl.SendStep(c, h); is != impl.ChanOk(c) {
				t.Fatalf("counters %d and %d: %v", n, m, is)
			}
			h = handAt(n, impl.Call{Code: m, Elem: 3})
			h.Cell = 1 // where a cell of the buffer is
			if _, _, is := impl.SendStep(busyChan(), h); is != (n >= 1 && n <= 8 && m == 1) {
				t.Fatalf("at %d, code %d: %v", n, m, is)
			}
			h = handAt(impl.AtLay, impl.Call{Code: impl.OpSend, Elem: m})
			h.Cell = n
			if _, _, is := impl.SendStep(busyChan(), h); is != (n >= 0 && n < 40 && m >= 0 && m <= 999) {
				t.Fatalf("cell %d, elem %d: %v", n, m, is)
			}
		}
	}
	checkListLengths(t, impl.SendStep, impl.AtSend, impl.AtDone, aSend)
}

// stepAnswers are the channels that each of those hands is answered with, refused or not.
func stepAnswers(step stepFunc, c impl.Chan, hands []impl.Hand) []impl.Chan {
	var answers []impl.Chan
	for _, h := range hands {
		x, _, _ := step(c, h)
		answers = append(answers, x)
	}
	return answers
}

// checkNewMemory asks that who writes into an answer writes into no argument and into no other answer.
func checkNewMemory(t *testing.T, step stepFunc, c impl.Chan, hands []impl.Hand) {
	t.Helper()
	before := cloneChan(c)
	answers, want := stepAnswers(step, c, hands), stepAnswers(step, c, hands)
	for i := range answers {
		for k := range answers[i].Cells {
			answers[i].Cells[k] = impl.Cell{State: -7, Elem: -7, Waiter: -7}
		}
		for k := range answers[i].Words {
			answers[i].Words[k] = -7
		}
		answers[i].Words = append(answers[i].Words, -8)
		answers[i].Cells = append(answers[i].Cells, impl.Cell{State: -8})
		for k := i + 1; k < len(answers); k++ {
			if !sameChan(answers[k], want[k]) {
				t.Errorf("%d words: answers %d and %d share their memory", len(c.Words), i, k)
			}
		}
	}
	if !reflect.DeepEqual(c, before) {
		t.Errorf("%d words: an answer shares its memory with the argument", len(c.Words))
	}
}

// Promise 19: answers are new memory, of each kind of step: those that change the channel, and those that do not.
func TestSendStepsAreNewMemory(t *testing.T) {
	hands := []impl.Hand{
		putHand(impl.CsNone, 11, 0, 0), putHand(impl.CsNone, 11, 12, 0), putHand(impl.CsIn, 11, 0, 0), putHand(impl.CsIn, 1, 0, 0),
	}
	for at := int64(impl.AtSend); at <= impl.AtDone; at++ {
		h := handAt(at, aSend)
		told := h
		told.Waiter = 2
		hands = append(hands, h, told)
	}
	over := withCell(fullChan(), 11, impl.Cell{})
	over.Cells[1] = impl.Cell{State: impl.CsIn}
	for _, c := range []impl.Chan{withCell(busyChan(), 11, impl.Cell{}), over} {
		for _, h := range hands {
			checkKind(t, impl.SendStep, c, h, true, false)
		}
		checkNewMemory(t, impl.SendStep, c, hands)
	}
}

// checkArgumentsStay asks the same of the room behind them too, where one more word would fit in.
func checkArgumentsStay(t *testing.T, step stepFunc, cell impl.Cell, hands []impl.Hand) {
	t.Helper()
	wide := fullChan()
	wide.Cells = append(wide.Cells, impl.Cell{State: 77, Elem: 78, Waiter: 79})
	wide.Words = append(make([]int64, impl.MaxWords), 76)
	for i := range wide.Cells {
		wide.Cells[i].Waiter = 0
	}
	wide.Cells[11], wide.Sent, wide.Got = cell, 4, 5
	before, handsBefore := cloneChan(wide), slices.Clone(hands)
	for n := range impl.MaxWords + 2 {
		c := wide
		c.Cells, c.Words = wide.Cells[:impl.MaxCells], wide.Words[:n]
		for _, h := range hands {
			step(c, h)
			step(wide, h)
		}
	}
	if !reflect.DeepEqual(wide, before) || !slices.Equal(hands, handsBefore) {
		t.Error("an argument was written to")
	}
}

// Promise 19: arguments stay.
func TestSendStepsLeaveTheirArguments(t *testing.T) {
	_, hands := sendCases()
	hands = append(hands, putHand(impl.CsNone, 11, 0, 0), putHand(impl.CsNone, 11, 40, 0))
	checkArgumentsStay(t, impl.SendStep, impl.Cell{}, hands)
}
