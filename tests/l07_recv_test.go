package tests

import (
	"slices"
	"testing"

	"loop.example/g00794/impl"
)

// checkWaits asks for the channel and the hand as they are, and false.
func checkWaits(t *testing.T, step stepFunc, c impl.Chan, h impl.Hand) {
	t.Helper()
	before := cloneChan(c)
	for range 2 { // and the same again
		if x, y, is := step(c, h); is || y != h || !sameChan(x, c) {
			t.Errorf("%+v does not wait: %+v, %v\nchannel %v\nnot     %v", h, y, is, x, c)
		}
	}
	if !sameChan(c, before) {
		t.Errorf("%+v: it wrote to its argument", h)
	}
}

// recvAnew is the hand of a receiver who begins again.
func recvAnew(h impl.Hand) impl.Hand {
	return impl.Hand{At: impl.AtRecv, Call: aRecv, Begin: h.Begin}
}

// growsThen is the hand as it is, at AtGrow, with that Then.
func growsThen(h impl.Hand, then int64) impl.Hand {
	h.Then = then
	return movedTo(h, impl.AtGrow)
}

// takeHand is at AtTake, with that cell and that counter.
func takeHand(seen, number, come int64) impl.Hand {
	h := handAt(impl.AtTake, aRecv)
	h.Seen, h.Cell, h.Come = seen, number, come
	return h
}

// eachThen lists the hand with each Then that it may come with.
func eachThen(h impl.Hand) []impl.Hand {
	var list []impl.Hand
	for then := int64(impl.ThRest); then <= impl.ThAgain; then++ {
		h.Then = then
		list = append(list, h)
	}
	return list
}

// comeHands lists hands whose sender came: the first cell, the last one and one between, at Cell
// just less than Come and at Come as much as it can be.
func comeHands(seen int64) []impl.Hand {
	list := []impl.Hand{takeHand(seen, 0, 1), takeHand(seen, 11, 12), takeHand(seen, 38, 39), takeHand(seen, 39, 40)}
	return append(list, takeHand(seen, 0, 40), takeHand(seen, 11, 40))
}

// aloneHands lists hands whose sender did not come yet: at Cell that is just Come, and that is more.
func aloneHands(seen int64) []impl.Hand {
	list := []impl.Hand{takeHand(seen, 0, 0), takeHand(seen, 11, 11), takeHand(seen, 39, 39)}
	return append(list, takeHand(seen, 11, 10), takeHand(seen, 11, 0), takeHand(seen, 39, 0))
}

func takeHands(seen int64) []impl.Hand { return append(comeHands(seen), aloneHands(seen)...) }

func TestRecvTakesANumber(t *testing.T) {
	for _, got := range []int64{0, 1, 26, impl.MaxCells - 2, impl.MaxCells - 1} {
		for _, h := range eachThen(handAt(impl.AtRecv, aRecv)) {
			c := busyChan()
			c.Got = got
			want, hand := cloneChan(c), movedTo(h, impl.AtView)
			want.Got, hand.Cell = got+1, got
			checkStep(t, impl.RecvStep, c, h, want, hand)
		}
	}
}

func TestRecvHasNoMoreCells(t *testing.T) {
	full := fullHand()
	full.At, full.Call = impl.AtRecv, aRecv
	for _, h := range []impl.Hand{{At: impl.AtRecv, Call: aRecv}, handAt(impl.AtRecv, aRecv), full} {
		c := busyChan()
		c.Got = impl.MaxCells
		checkStep(t, impl.RecvStep, c, h, c, impl.Resting(impl.RpOver, 0))
		checkStep(t, impl.RecvStep, fullChan(), h, fullChan(), impl.Resting(impl.RpOver, 0))
	}
}

// The other counters at their ends are no matter to who takes a number.
func TestRecvTakesANumberWhereOthersAreOver(t *testing.T) {
	c := fullChan()
	c.Got = 0
	want := cloneChan(c)
	want.Got = 1
	h := impl.Hand{At: impl.AtRecv, Call: aRecv}
	checkStep(t, impl.RecvStep, c, h, want, impl.Hand{At: impl.AtView, Call: aRecv})
}

// viewCells lists what may stand in a cell of that State, of a busyChan.
func viewCells(state int64) []impl.Cell {
	var list []impl.Cell
	for _, waiter := range []int64{0, 1, 12, 19, 20} {
		for _, elem := range []int64{0, 8, impl.MaxElem} {
			list = append(list, impl.Cell{State: state, Elem: elem, Waiter: waiter})
		}
	}
	return list
}

// Whatever the hand had before, it has then what is there, and goes where that leads.
func TestRecvViews(t *testing.T) {
	leads := map[int64]int64{
		impl.CsNone: impl.AtSent, impl.CsIn: impl.AtSent, impl.CsKept: impl.AtTake, impl.CsSend: impl.AtTake,
	}
	for state, at := range leads {
		for _, number := range []int64{0, 11, impl.MaxCells - 1} {
			for _, cell := range viewCells(state) {
				for _, seen := range statesBut() {
					h := handAt(impl.AtView, aRecv)
					h.Cell, h.Seen = number, seen
					hand := movedTo(h, at)
					hand.Seen, hand.Waiter, hand.Out = state, cell.Waiter, cell.Elem
					c := withCell(busyChan(), number, cell)
					checkStep(t, impl.RecvStep, c, h, c, hand)
				}
			}
		}
	}
}

// viewHands lists hands at AtView that have seen each state before, with each Begin at its limits.
func viewHands() []impl.Hand {
	var list []impl.Hand
	for _, number := range []int64{0, 11, impl.MaxCells - 1} {
		for _, begin := range []int64{0, 1, impl.MaxNow} {
			for _, seen := range statesBut() {
				h := handAt(impl.AtView, aRecv)
				h.Cell, h.Begin, h.Seen = number, begin, seen
				list = append(list, h)
			}
		}
	}
	return list
}

func TestRecvViewsAndGoesAnew(t *testing.T) {
	for _, h := range viewHands() {
		c := withCell(busyChan(), h.Cell, impl.Cell{State: impl.CsGoneSend, Elem: 8, Waiter: 13})
		checkStep(t, impl.RecvStep, c, h, c, recvAnew(h))
	}
}

// Who waits has nothing in hand of what he saw.
func TestRecvViewsAndWaits(t *testing.T) {
	for _, h := range viewHands() {
		for _, cell := range viewCells(impl.CsGrow) {
			checkWaits(t, impl.RecvStep, withCell(busyChan(), h.Cell, cell), h)
		}
	}
}

func TestRecvViewsWhatIsNotTold(t *testing.T) {
	told := []int64{impl.CsNone, impl.CsIn, impl.CsKept, impl.CsSend, impl.CsGoneSend, impl.CsGrow}
	for _, state := range statesBut(told...) {
		for _, h := range viewHands() {
			checkRefused(t, impl.RecvStep, withCell(busyChan(), h.Cell, impl.Cell{State: state, Elem: 8, Waiter: 13}), h)
		}
	}
}

func TestRecvReadsHowManyCame(t *testing.T) {
	for _, sent := range []int64{0, 1, 25, impl.MaxCells} {
		for _, seen := range statesBut() {
			c, h := busyChan(), handAt(impl.AtSent, aRecv)
			c.Sent, h.Seen = sent, seen
			hand := movedTo(h, impl.AtTake)
			hand.Come = sent
			checkStep(t, impl.RecvStep, c, h, c, hand)
		}
	}
}

// What was kept is taken, whoever came, and needs no Waiter; the cell keeps its Elem.
func TestRecvTakesWhatIsKept(t *testing.T) {
	for _, number := range takeHands(impl.CsKept) {
		for _, h := range eachThen(number) {
			for _, c := range []impl.Chan{busyChan(), fullChan()} {
				c = withCell(c, h.Cell, impl.Cell{State: impl.CsKept, Elem: 8, Waiter: 13})
				want := withCell(c, h.Cell, impl.Cell{State: impl.CsDone, Elem: 8})
				checkStep(t, impl.RecvStep, c, h, want, growsThen(h, impl.ThRest))
			}
		}
	}
}

// The cell's Waiter stays, though the hand has another one; he hears nothing yet.
func TestRecvCallsWhoSends(t *testing.T) {
	for _, number := range takeHands(impl.CsSend) {
		for _, h := range eachThen(number) {
			for _, waiter := range []int64{0, 1, 12, 13, 20} {
				for _, c := range []impl.Chan{busyChan(), fullChan()} {
					c = withCell(c, h.Cell, impl.Cell{State: impl.CsSend, Elem: 8, Waiter: waiter})
					want := withCell(c, h.Cell, impl.Cell{State: impl.CsCall, Elem: 8, Waiter: waiter})
					checkStep(t, impl.RecvStep, c, h, want, movedTo(h, impl.AtWake))
				}
			}
		}
	}
}

// Who poisons needs no Waiter, though there be none.
func TestRecvPoisonsWhereASenderCame(t *testing.T) {
	for _, seen := range []int64{impl.CsNone, impl.CsIn} {
		for _, number := range comeHands(seen) {
			for _, h := range eachThen(number) {
				for _, c := range []impl.Chan{busyChan(), fullChan()} {
					c = withCell(c, h.Cell, impl.Cell{State: seen, Elem: 8, Waiter: 13})
					want := withCell(c, h.Cell, impl.Cell{State: impl.CsPoison, Elem: 8})
					checkStep(t, impl.RecvStep, c, h, want, growsThen(h, impl.ThAgain))
				}
			}
		}
	}
}

// From the first Waiter on to the last one who can just be had.
func TestRecvParksWhereNobodyCame(t *testing.T) {
	for _, seen := range []int64{impl.CsNone, impl.CsIn} {
		for _, words := range []int{0, 1, 20, impl.MaxWords - 2, impl.MaxWords - 1} {
			for _, number := range aloneHands(seen) {
				for _, h := range eachThen(number) {
					mine := int64(words) + 1
					c := withCell(worded(fullChan().Words[:words]...), h.Cell, impl.Cell{State: seen, Elem: 8, Waiter: int64(words)})
					want := withWord(withCell(c, h.Cell, impl.Cell{State: impl.CsRecv, Elem: 8, Waiter: mine}))
					hand := growsThen(h, impl.ThPark)
					hand.Mine = mine
					checkStep(t, impl.RecvStep, c, h, want, hand)
				}
			}
		}
	}
}

// It is what the hand read that counts, not what the counters are by now, nor its End.
func TestRecvTakesByWhatItRead(t *testing.T) {
	for _, seen := range []int64{impl.CsNone, impl.CsIn} {
		for _, n := range []int64{0, impl.MaxCells} {
			c := withCell(busyChan(), 11, impl.Cell{State: seen})
			c.Sent, c.Got, c.End = n, n, n
			h := takeHand(seen, 11, 12)
			h.End = n
			poison := withCell(c, 11, impl.Cell{State: impl.CsPoison})
			checkStep(t, impl.RecvStep, c, h, poison, growsThen(h, impl.ThAgain))
			h.Come = 11
			hand := growsThen(h, impl.ThPark)
			hand.Mine = 21
			waits := withWord(withCell(c, 11, impl.Cell{State: impl.CsRecv, Waiter: 21}))
			checkStep(t, impl.RecvStep, c, h, waits, hand)
		}
	}
}

// That there is no Waiter is told first, be the cell as it was seen or not.
func TestRecvHasNoMoreWaiters(t *testing.T) {
	for _, seen := range []int64{impl.CsNone, impl.CsIn} {
		for _, h := range aloneHands(seen) {
			for _, state := range statesBut() {
				c := withCell(fullChan(), h.Cell, impl.Cell{State: state, Elem: 8, Waiter: 3})
				checkStep(t, impl.RecvStep, c, h, c, impl.Resting(impl.RpOver, 0))
			}
		}
	}
}

// A cell that is no more as it was seen is viewed again; no Waiter is had, and Then is as it was.
func TestRecvTakesWhatIsNoMoreAsSeen(t *testing.T) {
	for _, seen := range []int64{impl.CsNone, impl.CsIn, impl.CsKept, impl.CsSend} {
		for _, number := range takeHands(seen) {
			for _, h := range eachThen(number) {
				for _, state := range statesBut(seen) {
					for _, waiter := range []int64{0, 12, 20} {
						c := withCell(busyChan(), h.Cell, impl.Cell{State: state, Elem: 8, Waiter: waiter})
						checkStep(t, impl.RecvStep, c, h, c, movedTo(h, impl.AtView))
					}
				}
			}
		}
	}
}

// The last Waiter is left to others where the cell can't be turned.
func TestRecvLeavesTheLastWaiter(t *testing.T) {
	for _, seen := range []int64{impl.CsNone, impl.CsIn} {
		for _, state := range statesBut(seen) {
			c := withCell(worded(make([]int64, impl.MaxWords-1)...), 11, impl.Cell{State: state})
			h := takeHand(seen, 11, 11)
			checkStep(t, impl.RecvStep, c, h, c, movedTo(h, impl.AtView))
		}
	}
}

// Who saw what can't be taken is refused, be it as seen, with a sender who came, or over.
func TestRecvTakesWhatCannotBeSeen(t *testing.T) {
	for _, seen := range statesBut(impl.CsNone, impl.CsIn, impl.CsKept, impl.CsSend) {
		for _, h := range takeHands(seen) {
			for _, state := range []int64{impl.CsNone, impl.CsIn, impl.CsKept, impl.CsSend, seen} {
				checkRefused(t, impl.RecvStep, withCell(busyChan(), h.Cell, impl.Cell{State: state}), h)
				checkRefused(t, impl.RecvStep, withCell(fullChan(), h.Cell, impl.Cell{State: state}), h)
			}
		}
	}
}

func TestRecvWakes(t *testing.T) {
	for _, h := range eachThen(handAt(impl.AtWake, aRecv)) {
		checkCalls(t, impl.RecvStep, h, goesTo(impl.AtFinish), goesTo(impl.AtFail))
	}
}

// Both leave the Elem and the Waiter of the cell, and do not ask what state it had.
func TestRecvFinishesAndFails(t *testing.T) {
	for _, state := range statesBut() {
		for _, number := range []int64{0, 11, impl.MaxCells - 1} {
			for _, begin := range []int64{0, 1, impl.MaxNow} {
				for _, h := range eachThen(handAt(impl.AtFinish, aRecv)) {
					h.Cell, h.Begin = number, begin
					c := withCell(busyChan(), number, impl.Cell{State: state, Elem: 8, Waiter: 13})
					done := withCell(c, number, impl.Cell{State: impl.CsDone, Elem: 8, Waiter: 13})
					checkStep(t, impl.RecvStep, c, h, done, growsThen(h, impl.ThRest))
					gone := withCell(c, number, impl.Cell{State: impl.CsGoneSend, Elem: 8, Waiter: 13})
					checkStep(t, impl.RecvStep, c, movedTo(h, impl.AtFail), gone, recvAnew(h))
				}
			}
		}
	}
}

// receivedAlone receives till the hand is to let one in, or at rest.
func receivedAlone(t *testing.T, c impl.Chan) (impl.Chan, impl.Hand, []int64) {
	t.Helper()
	return doneAlone(t, impl.RecvStep, c, aRecv, impl.AtRest, impl.AtGrow)
}

// checkReceived asks for that channel, hand and way of who receives alone, and gives the channel.
func checkReceived(t *testing.T, c, want impl.Chan, hand impl.Hand, way ...int64) impl.Chan {
	t.Helper()
	x, h, places := receivedAlone(t, c)
	if h != hand || !slices.Equal(places, way) || !sameChan(x, want) {
		t.Fatalf("%+v by %v\nchannel %v\nnot %+v by %v\nchannel %v", h, places, x, hand, way, want)
	}
	return x
}

// gotHand is at AtGrow with what it received from a cell, in which it saw that.
func gotHand(number, seen, waiter, out int64) impl.Hand {
	return impl.Hand{At: impl.AtGrow, Call: aRecv, Cell: number, Seen: seen, Waiter: waiter, Out: out}
}

// Promise 7: of all that was sent the first one is received first, kept or not; who comes behind them is parked.
func TestWhoReceivesAlone(t *testing.T) {
	const sent = 7
	for cap := int64(0); cap <= impl.MaxCap; cap++ {
		c := impl.NewChan(cap)
		for n := int64(0); n < sent; n++ {
			c, _, _ = sentAlone(t, c, 100+n*n%13)
		}
		for n := int64(0); n < sent; n++ {
			elem := 100 + n*n%13
			want := withCell(c, n, impl.Cell{State: impl.CsDone, Elem: elem})
			want.Got++
			if n < cap {
				c = checkReceived(t, c, want, gotHand(n, impl.CsKept, 0, elem), impl.AtView, impl.AtTake, impl.AtGrow)
				continue
			}
			waiter := n - cap + 1
			want.Cells[n].Waiter, want.Words[waiter-1] = waiter, impl.WdCalled
			c = checkReceived(t, c, want, gotHand(n, impl.CsSend, waiter, elem),
				impl.AtView, impl.AtTake, impl.AtWake, impl.AtFinish, impl.AtGrow)
		}
		checkAllPark(t, c, sent)
	}
}

// checkAllPark asks that each who receives from that cell on is parked, and that it is over behind the last cell.
func checkAllPark(t *testing.T, c impl.Chan, from int64) {
	t.Helper()
	for n := from; n < impl.MaxCells; n++ {
		mine := int64(len(c.Words)) + 1
		want := withWord(withCell(c, n, impl.Cell{State: impl.CsRecv, Waiter: mine}))
		want.Got++
		hand := impl.Hand{At: impl.AtGrow, Call: aRecv, Cell: n, Come: c.Sent, Mine: mine, Then: impl.ThPark}
		c = checkReceived(t, c, want, hand, impl.AtView, impl.AtSent, impl.AtTake, impl.AtGrow)
	}
	checkReceived(t, c, c, impl.Resting(impl.RpOver, 0), impl.AtRest)
}

// Promise 7: where nothing was sent, all are parked; each one who sends then calls the first of them.
func TestWhoReceivesAloneWhereNothingIs(t *testing.T) {
	for cap := int64(0); cap <= impl.MaxCap; cap++ {
		checkAllPark(t, impl.NewChan(cap), 0)
		c := impl.NewChan(cap)
		for range 5 {
			c, _, _ = receivedAlone(t, c)
		}
		for n := int64(0); n < 5; n++ {
			want := withCell(c, n, impl.Cell{State: impl.CsDone, Elem: 50 - n, Waiter: n + 1})
			want.Sent++
			want.Words[n] = impl.WdCalled
			x, h, places := sentAlone(t, c, 50-n)
			way := []int64{impl.AtLay, impl.AtLook, impl.AtCall, impl.AtDone, impl.AtRest}
			if h != impl.Resting(impl.RpOk, 0) || !slices.Equal(places, way) || !sameChan(x, want) {
				t.Fatalf("cap %d, sender %d: %+v by %v\nchannel %v\nnot     %v", cap, n, h, places, x, want)
			}
			c = x
		}
	}
}

// Promise 7: who would be parked is told that it is over where there is no Waiter; what is kept he can take.
func TestWhoReceivesAloneWithoutAWaiter(t *testing.T) {
	for _, words := range []int{impl.MaxWords - 1, impl.MaxWords} {
		c := withCell(impl.NewChan(1), 0, impl.Cell{State: impl.CsKept, Elem: 3})
		c.Sent, c.Words = 1, make([]int64, words)
		want := withCell(c, 0, impl.Cell{State: impl.CsDone, Elem: 3})
		want.Got = 1
		c = checkReceived(t, c, want, gotHand(0, impl.CsKept, 0, 3), impl.AtView, impl.AtTake, impl.AtGrow)
		if words < impl.MaxWords {
			want = withWord(withCell(c, 1, impl.Cell{State: impl.CsRecv, Waiter: impl.MaxWords}))
			want.Got = 2
			hand := impl.Hand{At: impl.AtGrow, Call: aRecv, Cell: 1, Come: 1, Mine: impl.MaxWords, Then: impl.ThPark}
			c = checkReceived(t, c, want, hand, impl.AtView, impl.AtSent, impl.AtTake, impl.AtGrow)
		}
		want = cloneChan(c)
		want.Got++
		checkReceived(t, c, want, impl.Resting(impl.RpOver, 0), impl.AtView, impl.AtSent, impl.AtTake, impl.AtRest)
	}
}

// Who finds a sender who is gone, or who was stopped just now, goes on to the next cell.
func TestWhoReceivesPastWhoIsGone(t *testing.T) {
	c := impl.NewChan(0)
	c.Sent, c.Words = 4, []int64{2, 2, 0}
	c.Cells[0] = impl.Cell{State: impl.CsGoneSend, Elem: 4, Waiter: 1}
	c.Cells[1] = impl.Cell{State: impl.CsSend, Elem: 5, Waiter: 2}
	c.Cells[2] = impl.Cell{State: impl.CsSend, Elem: 6, Waiter: 3}
	want := withCell(c, 1, impl.Cell{State: impl.CsGoneSend, Elem: 5, Waiter: 2})
	want.Cells[2].State = impl.CsDone
	want.Got, want.Words[2] = 3, impl.WdCalled
	checkReceived(t, c, want, gotHand(2, impl.CsSend, 3, 6),
		impl.AtView, impl.AtRecv, impl.AtView, impl.AtTake, impl.AtWake, impl.AtFail,
		impl.AtRecv, impl.AtView, impl.AtTake, impl.AtWake, impl.AtFinish, impl.AtGrow)
}

// Who poisons does so where the sender of his cell has come and left nothing yet, who then goes on to the next cell.
func TestWhoPoisonsSendsTheSenderOn(t *testing.T) {
	for laid := range 2 {
		c := impl.NewChan(1)
		h := impl.Hand{At: impl.AtSend, Call: aSend}
		for range 1 + laid {
			c, h, _ = impl.SendStep(c, h)
		}
		elem := int64(laid) * aSend.Elem
		want := withCell(c, 0, impl.Cell{State: impl.CsPoison, Elem: elem})
		want.Got = 1
		hand := impl.Hand{At: impl.AtGrow, Call: aRecv, Come: 1, Then: impl.ThAgain, Out: elem}
		c = checkReceived(t, c, want, hand, impl.AtView, impl.AtSent, impl.AtTake, impl.AtGrow)
		for h.At != impl.AtSend {
			c, h, _ = impl.SendStep(c, h)
		}
		want.Cells[0].Elem = aSend.Elem
		if h != (impl.Hand{At: impl.AtSend, Call: aSend}) || !sameChan(c, want) {
			t.Errorf("laid %d: %+v\nchannel %v\nnot     %v", laid, h, c, want)
		}
	}
}

// Only the sender of the same cell counts: for one who came to an earlier cell, and left nothing there, nobody poisons.
func TestWhoParksBehindTheLastSender(t *testing.T) {
	c := impl.NewChan(1)
	c, _, _ = impl.SendStep(c, impl.Hand{At: impl.AtSend, Call: aSend})
	c.Got = 1
	want := withWord(withCell(c, 1, impl.Cell{State: impl.CsRecv, Waiter: 1}))
	want.Got = 2
	hand := impl.Hand{At: impl.AtGrow, Call: aRecv, Cell: 1, Come: 1, Mine: 1, Then: impl.ThPark}
	checkReceived(t, c, want, hand, impl.AtView, impl.AtSent, impl.AtTake, impl.AtGrow)
}

// moment is a channel and who is at it, so that those that are alike can be told. Nobody comes to
// the cells that are left out, nor is there a word more.
type moment struct {
	sent, got, end, words int64
	cells                 [reach]impl.Cell
	word                  [reach]int64
	hands                 [5]impl.Hand
}

// reach is how many cells there may be in use, lest two who go anew again and again should come to all.
const reach = 8

func momentOf(c impl.Chan, hands []impl.Hand) moment {
	m := moment{sent: c.Sent, got: c.Got, end: c.End, words: int64(len(c.Words))}
	copy(m.cells[:], c.Cells)
	copy(m.word[:], c.Words)
	copy(m.hands[:], hands)
	return m
}

// turns are made in every order, till each one is at one of the places where he is done.
type turns struct {
	t     *testing.T
	step  stepFunc
	done  []int64
	most  int64 // who takes a number from here on is passed over
	stops bool  // may each one who is parked be stopped at any time?
	seen  map[moment]bool
	ends  int
	check func(c impl.Chan, hands []impl.Hand)
}

// placeStep is the step of the hand's place.
func placeStep(c impl.Chan, h impl.Hand) (impl.Chan, impl.Hand, bool) {
	switch {
	case h.At <= impl.AtDone:
		return impl.SendStep(c, h)
	case h.At <= impl.AtFail:
		return impl.RecvStep(c, h)
	case h.At <= impl.AtLose:
		return impl.GrowStep(c, h)
	}
	return impl.ParkStep(c, h)
}

// inAnyOrder makes each step that somebody can make. Where nobody can, all must be done, or parked.
func (u *turns) inAnyOrder(c impl.Chan, hands []impl.Hand) {
	m := momentOf(c, hands)
	if u.seen[m] || c.Sent > u.most || c.Got > u.most {
		return
	}
	u.seen[m] = true
	moves, waits := 0, 0
	for who, h := range hands {
		if u.stops && h.At == impl.AtPark {
			if x, is := impl.Told(c, h.Mine, impl.WdStopped); is {
				u.inAnyOrder(x, hands)
			}
		}
		if slices.Contains(u.done, h.At) {
			continue
		}
		x, y, is := u.step(c, h)
		if !is && y == h {
			if h.At != impl.AtPark { // where one may wait for ever
				waits++
			}
			continue
		}
		if !is {
			u.t.Fatalf("no step of %+v\nchannel %v", h, c)
		}
		next := slices.Clone(hands)
		next[who] = y
		u.inAnyOrder(x, next)
		moves++
	}
	if moves > 0 {
		return
	}
	if waits > 0 {
		u.t.Fatalf("nobody can go on: %+v\nchannel %v", hands, c)
	}
	u.ends++
	u.check(c, hands)
}

// served lists what was sent by then, and what was received by then, both sorted.
func served(c impl.Chan, hands []impl.Hand, elems []int64) (sent, got []int64) {
	for who, h := range hands {
		called := h.Mine > 0 && impl.WordOf(c, h.Mine) == impl.WdCalled
		switch {
		case elems[who] > 0:
			if h.Reply == impl.RpOk || h.At == impl.AtPark && called {
				sent = append(sent, elems[who])
			}
		case h.Reply == impl.RpValue, h.At == impl.AtGrow && h.Then == impl.ThRest:
			got = append(got, h.Out)
		case h.Then == impl.ThPark && called:
			got = append(got, c.Cells[h.Cell].Elem)
		}
	}
	slices.Sort(sent)
	slices.Sort(got)
	return sent, got
}

// checkServed asks that what was sent was received, or is kept, each once.
func checkServed(t *testing.T, c impl.Chan, hands []impl.Hand, elems []int64) {
	t.Helper()
	sent, got := served(c, hands, elems)
	all := append(got, impl.KeptIn(c)...)
	slices.Sort(all)
	if !slices.Equal(sent, all) {
		t.Fatalf("elems %v: %v were sent, %v received or kept\n%+v\nchannel %v", elems, sent, all, hands, c)
	}
}

// comers are the hands of who sends those, and of who receives for each 0.
func comers(elems []int64) []impl.Hand {
	var hands []impl.Hand
	for _, elem := range elems {
		h := impl.Hand{At: impl.AtRecv, Call: aRecv}
		if elem > 0 {
			h = impl.Hand{At: impl.AtSend, Call: impl.Call{Code: impl.OpSend, Elem: elem}}
		}
		hands = append(hands, h)
	}
	return hands
}

// Senders and receivers by turns, in every order, till those who receive are to let one in.
func TestSendersAndReceiversInAnyOrder(t *testing.T) {
	for _, elems := range [][]int64{{7, 0}, {7, 0, 0}, {7, 8, 0}, {7, 8, 0, 0}} {
		for cap := int64(0); cap <= 2; cap++ {
			if len(elems) > 3 && cap != 1 {
				continue // these orders are many, and a buffer of one has both kinds of cells
			}
			u := turns{t: t, step: placeStep, done: []int64{impl.AtRest, impl.AtPark, impl.AtGrow}, most: reach, seen: map[moment]bool{}}
			u.check = func(c impl.Chan, hands []impl.Hand) {
				checkServed(t, c, hands, elems)
				if !checkPoison(c, hands) {
					t.Fatalf("cap %d, elems %v: %+v\nchannel %v", cap, elems, hands, c)
				}
			}
			u.inAnyOrder(impl.NewChan(cap), comers(elems))
			if u.ends < 3 {
				t.Errorf("cap %d, elems %v: only %d ends", cap, elems, u.ends)
			}
		}
	}
}

// checkPoison asks that just those who poisoned go again, and that nobody is parked in a cell that a sender came to.
func checkPoison(c impl.Chan, hands []impl.Hand) bool {
	again := 0
	for _, h := range hands {
		if h.At == impl.AtGrow && h.Then == impl.ThAgain {
			again++
			if c.Cells[h.Cell].State != impl.CsPoison {
				return false
			}
		}
		if h.At == impl.AtGrow && h.Then == impl.ThPark && h.Cell < c.Sent && c.Cells[h.Cell].State != impl.CsDone {
			return false
		}
	}
	return len(impl.WaitingIn(c, impl.CsPoison)) == again
}

func TestRecvStepOfWrongChans(t *testing.T) { checkWrongChans(t, impl.RecvStep, aRecv) }

// A step that would mend the channel is refused: it was not right before.
func TestRecvStepMendsNothing(t *testing.T) {
	stray := impl.Cell{State: impl.CsKept, Waiter: 21}
	checkRefused(t, impl.RecvStep, withCell(busyChan(), 11, stray), takeHand(impl.CsKept, 11, 0))
	for _, come := range []int64{11, 12} {
		stray.State = impl.CsIn
		checkRefused(t, impl.RecvStep, withCell(busyChan(), 11, stray), takeHand(impl.CsIn, 11, come))
	}
	for _, at := range []int64{impl.AtFinish, impl.AtFail} {
		checkRefused(t, impl.RecvStep, withCell(busyChan(), 11, impl.Cell{State: statesInAll}), handAt(at, aRecv))
	}
	c := busyChan()
	c.Got = -1
	checkRefused(t, impl.RecvStep, c, handAt(impl.AtRecv, aRecv))
}

// What is not right goes ahead of who waits.
func TestRecvStepWaitsInNoWrongChan(t *testing.T) {
	h := handAt(impl.AtView, aRecv)
	checkRefused(t, impl.RecvStep, withCell(busyChan(), 11, impl.Cell{State: impl.CsGrow, Waiter: 21}), h)
	checkRefused(t, impl.RecvStep, withCell(busyChan(), 11, impl.Cell{State: impl.CsGrow, Elem: impl.MaxElem + 1}), h)
	c := withCell(busyChan(), 11, impl.Cell{State: impl.CsGrow})
	checkWaits(t, impl.RecvStep, c, h)
	for _, p := range handParts()[1:] {
		for _, n := range p.past() {
			wrong := h
			p.put(&wrong, n)
			checkRefused(t, impl.RecvStep, c, wrong)
		}
	}
	checkRefused(t, impl.RecvStep, c, handAt(impl.AtView, aSend))
}

// fitCell is what a hand of handAt can take, at each place of the table: it saw CsIn, and may view it.
var fitCell = impl.Cell{State: impl.CsIn, Elem: 8, Waiter: 12}

func TestRecvStepOfWrongHands(t *testing.T) {
	checkWrongHands(t, impl.RecvStep, withCell(busyChan(), 11, fitCell), impl.AtRecv, impl.AtFail, aRecv)
}

func TestRecvStepAtOtherPlaces(t *testing.T) {
	checkOtherPlaces(t, impl.RecvStep, impl.AtRecv, impl.AtFail, aRecv)
	checkOtherPlaces(t, impl.RecvStep, impl.AtRecv, impl.AtFail, aSend)
}

func TestRecvStepOfAnotherCall(t *testing.T) {
	checkAnotherCall(t, impl.RecvStep, aSend)
	checkAnotherCall(t, impl.RecvStep, impl.Call{Code: impl.OpSend})
}

func recvCases() ([]impl.Chan, []impl.Hand) { return stepCases(impl.AtRecv, impl.AtFail, aRecv) }

// Promise 19: there is an answer, of its kind, whatever is seen and is there.
func TestRecvStepAnswersAtEveryArgument(t *testing.T) {
	chans, hands := recvCases()
	for _, c := range chans {
		for _, h := range hands {
			state, told, waits := c.Cells[h.Cell].State, true, false
			switch h.At {
			case impl.AtView:
				told = slices.Contains([]int64{0, 1, 2, 3, 9}, state)
				waits = state == impl.CsGrow
			case impl.AtTake:
				told = h.Seen <= 3
			}
			checkKind(t, impl.RecvStep, c, h, told, waits)
		}
	}
}

func TestRecvStepOfOddNumbers(t *testing.T) {
	for _, n := range oddNumbers() {
		for _, m := range oddNumbers() {
			c := busyChan()
			c.Sent, c.Got, c.End = m, n, m
			if _, _, is := impl.RecvStep(c, handAt(impl.AtRecv, aRecv)); is != impl.ChanOk(c) {
				t.Fatalf("counters %d and %d: %v", m, n, is)
			}
			h := handAt(n, impl.Call{Code: m})
			h.Cell = 1 // where a cell of the buffer is
			if _, _, is := impl.RecvStep(busyChan(), h); is != (n >= 9 && n <= 15 && m == 2) {
				t.Fatalf("at %d, code %d: %v", n, m, is)
			}
			h = takeHand(impl.CsNone, n, m)
			if _, _, is := impl.RecvStep(busyChan(), h); is != (n >= 0 && n < 40 && m >= 0 && m <= 40) {
				t.Fatalf("cell %d, come %d: %v", n, m, is)
			}
			h = handAt(impl.AtWake, impl.Call{Code: impl.OpRecv, Elem: n})
			h.Waiter = m
			if _, _, is := impl.RecvStep(busyChan(), h); is != (n == 0 && m >= 0 && m <= 80) {
				t.Fatalf("elem %d, waiter %d: %v", n, m, is)
			}
		}
	}
	checkListLengths(t, impl.RecvStep, impl.AtRecv, impl.AtFail, aRecv)
}

// manyHands lists one of each kind of step, and one who waits, where cell 11 is fitCell and cell 6 is CsGrow.
func manyHands() []impl.Hand {
	wait, poison, park := handAt(impl.AtView, aRecv), takeHand(impl.CsIn, 11, 12), takeHand(impl.CsIn, 11, 11)
	wait.Cell = 6
	hands := []impl.Hand{
		wait, poison, park, takeHand(impl.CsKept, 2, 0), takeHand(impl.CsSend, 3, 0), takeHand(impl.CsKept, 11, 0),
	}
	for at := int64(impl.AtRecv); at <= impl.AtFail; at++ {
		h := handAt(at, aRecv)
		told := h
		told.Waiter = 2
		hands = append(hands, h, told)
	}
	return hands
}

// Promise 19: answers are new memory, that of who waits too.
func TestRecvStepsAreNewMemory(t *testing.T) {
	for _, c := range []impl.Chan{busyChan(), fullChan()} {
		c = withCell(withCell(c, 11, fitCell), 6, impl.Cell{State: impl.CsGrow})
		for i, h := range manyHands() {
			checkKind(t, impl.RecvStep, c, h, i > 0, i == 0)
		}
		checkNewMemory(t, impl.RecvStep, c, manyHands())
	}
}

// Promise 19: arguments stay.
func TestRecvStepsLeaveTheirArguments(t *testing.T) {
	_, hands := recvCases()
	checkArgumentsStay(t, impl.RecvStep, impl.Cell{State: impl.CsIn}, append(hands, manyHands()...))
}
