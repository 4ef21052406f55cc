package tests

import (
	"slices"
	"testing"

	"loop.example/g00794/impl"
)

// growHands lists hands at that place with each Then; they let one in at the first cell, at the last
// one, at the one that is their own too, and at another one.
func growHands(at int64) []impl.Hand {
	var list []impl.Hand
	for _, number := range []int64{0, 11, 15, impl.MaxCells - 1} {
		h := handAt(at, aRecv)
		h.Grow = number
		list = append(list, eachThen(h)...)
	}
	return list
}

// growSeen lists the same, with what they saw.
func growSeen(at, seen int64) []impl.Hand {
	list := growHands(at)
	for i := range list {
		list[i].Seen = seen
	}
	return list
}

// grown is what becomes of a hand behind growing, by its Then.
func grown(h impl.Hand) impl.Hand {
	switch h.Then {
	case impl.ThPark:
		return movedTo(h, impl.AtPark)
	case impl.ThAgain:
		return recvAnew(h)
	}
	return impl.Hand{Reply: impl.RpValue, Out: h.Out}
}

func TestGrowMovesTheEnd(t *testing.T) {
	for cap := int64(1); cap <= impl.MaxCap; cap++ {
		for _, end := range []int64{0, 1, 27, impl.MaxCells - 2, impl.MaxCells - 1} {
			for _, h := range growHands(impl.AtGrow) {
				c := busyChan()
				c.Cap, c.End = cap, end
				want, hand := cloneChan(c), movedTo(h, impl.AtFar)
				want.End, hand.Grow = end+1, end
				checkStep(t, impl.GrowStep, c, h, want, hand)
			}
		}
	}
}

// Where there is no buffer, or it has no more cells to come to, it is grown at once.
func TestGrowHasNothingToMove(t *testing.T) {
	for _, h := range growHands(impl.AtGrow) {
		for _, end := range []int64{0, 1, 27, impl.MaxCells - 1, impl.MaxCells} {
			c := busyChan()
			c.Cap, c.End = 0, end
			checkStep(t, impl.GrowStep, c, h, c, grown(h))
		}
		for cap := int64(1); cap <= impl.MaxCap; cap++ {
			c := busyChan()
			c.Cap, c.End = cap, impl.MaxCells
			checkStep(t, impl.GrowStep, c, h, c, grown(h))
		}
		checkStep(t, impl.GrowStep, fullChan(), h, fullChan(), grown(h))
	}
}

// The other counters at their ends are no matter to who moves the end.
func TestGrowMovesTheEndWhereOthersAreOver(t *testing.T) {
	c := fullChan()
	c.End = 0
	want := cloneChan(c)
	want.End = 1
	h := impl.Hand{At: impl.AtGrow, Call: aRecv}
	checkStep(t, impl.GrowStep, c, h, want, impl.Hand{At: impl.AtFar, Call: aRecv})
}

// It is the number in hand that is less than how many came, or not: not the end, nor its own cell.
func TestGrowLooksHowFar(t *testing.T) {
	for grow := int64(0); grow < impl.MaxCells; grow++ {
		for sent := int64(0); sent <= impl.MaxCells; sent++ {
			for _, h := range eachThen(handAt(impl.AtFar, aRecv)) {
				c := busyChan()
				c.Sent, c.End, c.Got, h.Grow = sent, impl.MaxCells-sent, grow, grow
				hand := grown(h)
				if grow < sent {
					hand = movedTo(h, impl.AtMeet)
				}
				checkStep(t, impl.GrowStep, c, h, c, hand)
			}
		}
	}
}

// Each state leads on, or back to one more, or it is grown; what was seen before is forgotten.
func TestGrowMeets(t *testing.T) {
	leads := map[int64]int64{impl.CsNone: impl.AtPull, impl.CsSend: impl.AtPull, impl.CsGoneSend: impl.AtGrow}
	for _, state := range statesBut(impl.CsCall) {
		for _, cell := range viewCells(state) {
			for _, seen := range []int64{impl.CsNone, impl.CsSend, impl.CsGoneSend, impl.CsCall, impl.CsDone} {
				for _, h := range growSeen(impl.AtMeet, seen) {
					hand := h
					hand.Seen, hand.Waiter = state, cell.Waiter
					if at, is := leads[state]; is {
						hand.At = at
					} else {
						hand = grown(hand)
					}
					c := withCell(busyChan(), h.Grow, cell)
					checkStep(t, impl.GrowStep, c, h, c, hand)
				}
			}
		}
	}
}

// Who waits has nothing in hand of what he met.
func TestGrowMeetsAndWaits(t *testing.T) {
	for _, cell := range viewCells(impl.CsCall) {
		for _, seen := range statesBut() {
			for _, h := range growSeen(impl.AtMeet, seen) {
				checkWaits(t, impl.GrowStep, withCell(busyChan(), h.Grow, cell), h)
			}
		}
	}
}

// The hand's own cell has no say where another one is met.
func TestGrowMeetsAnotherCellThanItsOwn(t *testing.T) {
	for _, own := range statesBut() {
		c := withCell(busyChan(), 11, impl.Cell{State: own, Elem: 8, Waiter: 13})
		for _, h := range eachThen(handAt(impl.AtMeet, aRecv)) {
			hand := movedTo(h, impl.AtPull)
			hand.Seen, hand.Waiter = impl.CsSend, 14
			send := withCell(c, h.Grow, impl.Cell{State: impl.CsSend, Elem: 9, Waiter: 14})
			checkStep(t, impl.GrowStep, send, h, send, hand)
			done := withCell(c, h.Grow, impl.Cell{State: impl.CsDone, Elem: 9, Waiter: 14})
			hand = h
			hand.Seen, hand.Waiter = impl.CsDone, 14
			checkStep(t, impl.GrowStep, done, h, done, grown(hand))
			checkWaits(t, impl.GrowStep, withCell(c, h.Grow, impl.Cell{State: impl.CsCall}), h)
		}
	}
}

// ownCells lists the channel with each state in cell 11, which is the own one of a hand of handAt.
func ownCells(c impl.Chan) []impl.Chan {
	list := []impl.Chan{c}
	for _, own := range statesBut() {
		list = append(list, withCell(c, 11, impl.Cell{State: own, Elem: 5, Waiter: 3}))
	}
	return list
}

// Where nobody came yet there is room by now, which needs no Waiter; the cell keeps its Elem.
func TestGrowPullsWhereNobodyIs(t *testing.T) {
	for _, h := range growSeen(impl.AtPull, impl.CsNone) {
		for _, own := range append(ownCells(busyChan()), fullChan()) {
			for _, cell := range viewCells(impl.CsNone) {
				c := withCell(own, h.Grow, cell)
				want := withCell(c, h.Grow, impl.Cell{State: impl.CsIn, Elem: cell.Elem})
				checkStep(t, impl.GrowStep, c, h, want, grown(h))
			}
		}
	}
}

// The cell's Waiter stays, though the hand has another one; he hears nothing yet.
func TestGrowPullsWhoSends(t *testing.T) {
	for _, h := range growSeen(impl.AtPull, impl.CsSend) {
		for _, own := range append(ownCells(busyChan()), fullChan()) {
			for _, cell := range viewCells(impl.CsSend) {
				c := withCell(own, h.Grow, cell)
				want := withCell(c, h.Grow, impl.Cell{State: impl.CsGrow, Elem: cell.Elem, Waiter: cell.Waiter})
				checkStep(t, impl.GrowStep, c, h, want, movedTo(h, impl.AtRaise))
			}
		}
	}
}

// A cell that is no more as it was seen is met again, be its own cell just so or not.
func TestGrowPullsWhatIsNoMoreAsSeen(t *testing.T) {
	for _, seen := range []int64{impl.CsNone, impl.CsSend} {
		for _, h := range growSeen(impl.AtPull, seen) {
			for _, state := range statesBut(seen) {
				for _, waiter := range []int64{0, 12, 20} {
					c := withCell(busyChan(), 11, impl.Cell{State: seen, Elem: 8, Waiter: 13})
					c = withCell(c, h.Grow, impl.Cell{State: state, Elem: 8, Waiter: waiter})
					checkStep(t, impl.GrowStep, c, h, c, movedTo(h, impl.AtMeet))
				}
			}
		}
	}
}

// Who saw neither nobody nor a sender is refused, be the cell as it was seen or not.
func TestGrowPullsWhatCannotBeSeen(t *testing.T) {
	for _, seen := range statesBut(impl.CsNone, impl.CsSend) {
		for _, h := range growSeen(impl.AtPull, seen) {
			for _, state := range statesBut() {
				checkRefused(t, impl.GrowStep, withCell(busyChan(), h.Grow, impl.Cell{State: state}), h)
				checkRefused(t, impl.GrowStep, withCell(fullChan(), h.Grow, impl.Cell{State: state}), h)
			}
		}
	}
}

func TestGrowRaises(t *testing.T) {
	for _, h := range eachThen(handAt(impl.AtRaise, aRecv)) {
		checkCalls(t, impl.GrowStep, h, goesTo(impl.AtKeep), goesTo(impl.AtLose))
	}
}

// Both leave the Elem and the Waiter of the cell, and do not ask what state it had.
func TestGrowKeepsAndLoses(t *testing.T) {
	for _, state := range statesBut() {
		for _, cell := range []impl.Cell{{State: state}, {State: state, Elem: 8, Waiter: 13}} {
			for _, own := range ownCells(busyChan()) {
				for _, h := range growHands(impl.AtKeep) {
					c := withCell(own, h.Grow, cell)
					kept := withCell(c, h.Grow, impl.Cell{State: impl.CsKept, Elem: cell.Elem, Waiter: cell.Waiter})
					checkStep(t, impl.GrowStep, c, h, kept, grown(h))
					gone := withCell(c, h.Grow, impl.Cell{State: impl.CsGoneSend, Elem: cell.Elem, Waiter: cell.Waiter})
					checkStep(t, impl.GrowStep, c, movedTo(h, impl.AtLose), gone, movedTo(h, impl.AtGrow))
				}
			}
		}
	}
}

// lastTouch is one behind which it is grown.
type lastTouch struct {
	c    impl.Chan
	h    impl.Hand
	want impl.Chan
}

// lastTouches lists one of each place.
func lastTouches() []lastTouch {
	list := []lastTouch{{c: busyChan(), h: handAt(impl.AtGrow, aRecv)}, {c: busyChan(), h: handAt(impl.AtGrow, aRecv)}}
	list[0].c.Cap = 0
	list[1].c.End = impl.MaxCells
	far := lastTouch{c: busyChan(), h: handAt(impl.AtFar, aRecv)}
	far.c.Sent = far.h.Grow
	meet := lastTouch{c: withCell(busyChan(), 15, impl.Cell{State: impl.CsIn, Waiter: 12}), h: handAt(impl.AtMeet, aRecv)}
	list = append(list, far, meet)
	for i := range list {
		list[i].want = list[i].c
	}
	pull := lastTouch{c: withCell(busyChan(), 15, impl.Cell{Elem: 8}), h: handAt(impl.AtPull, aRecv)}
	pull.h.Seen = impl.CsNone
	pull.want = withCell(pull.c, 15, impl.Cell{State: impl.CsIn, Elem: 8})
	keep := lastTouch{c: withCell(busyChan(), 15, impl.Cell{State: impl.CsGrow, Elem: 8}), h: handAt(impl.AtKeep, aRecv)}
	keep.want = withCell(keep.c, 15, impl.Cell{State: impl.CsKept, Elem: 8})
	return append(list, pull, keep)
}

// Who rests has Out and nothing else; who parks has all that he had; who goes anew has Begin.
func TestGrownByThen(t *testing.T) {
	for _, last := range lastTouches() {
		for _, out := range []int64{0, 1, 18, impl.MaxElem} {
			for _, begin := range []int64{0, 1, impl.MaxNow} {
				h := last.h
				h.Out, h.Begin = out, begin
				h.Then = impl.ThRest
				checkStep(t, impl.GrowStep, last.c, h, last.want, impl.Hand{Reply: impl.RpValue, Out: out})
				h.Then = impl.ThPark
				checkStep(t, impl.GrowStep, last.c, h, last.want, movedTo(h, impl.AtPark))
				h.Then = impl.ThAgain
				checkStep(t, impl.GrowStep, last.c, h, last.want, impl.Hand{At: impl.AtRecv, Call: aRecv, Begin: begin})
			}
		}
	}
}

// receivedWhole receives till the hand is at rest, or parked.
func receivedWhole(t *testing.T, c impl.Chan) (impl.Chan, impl.Hand, []int64) {
	t.Helper()
	return doneAlone(t, placeStep, c, aRecv, impl.AtRest, impl.AtPark)
}

// checkWhole asks for that channel, hand and way of who receives alone, and gives the channel.
func checkWhole(t *testing.T, c, want impl.Chan, hand impl.Hand, way ...int64) impl.Chan {
	t.Helper()
	x, h, places := receivedWhole(t, c)
	if h != hand || !slices.Equal(places, way) || !sameChan(x, want) {
		t.Fatalf("%+v by %v\nchannel %v\nnot %+v by %v\nchannel %v", h, places, x, hand, way, want)
	}
	return x
}

var (
	takes  = []int64{impl.AtView, impl.AtTake, impl.AtGrow}
	comes  = []int64{impl.AtView, impl.AtSent, impl.AtTake, impl.AtGrow}
	raises = []int64{impl.AtFar, impl.AtMeet, impl.AtPull, impl.AtRaise, impl.AtKeep}
	loses  = []int64{impl.AtFar, impl.AtMeet, impl.AtPull, impl.AtRaise, impl.AtLose, impl.AtGrow}
	passes = []int64{impl.AtFar, impl.AtMeet, impl.AtGrow}
)

// sentChan is a channel to which so many sent, one after the other: i sent 100 + i.
func sentChan(t *testing.T, cap, sent int64) impl.Chan {
	t.Helper()
	c := impl.NewChan(cap)
	for n := range sent {
		c, _, _ = sentAlone(t, c, 100+n)
	}
	return c
}

// Promise 8: each one who takes what is kept lets the first sender in who waits, who leaves it in the
// buffer; so as many are kept as before, till nobody waits any more.
func TestWhoTakesOneLetsOneIn(t *testing.T) {
	const more = 5
	for cap := int64(1); cap <= impl.MaxCap; cap++ {
		c := sentChan(t, cap, cap+more)
		for n := int64(0); n < cap+more; n++ {
			want := withCell(c, n, impl.Cell{State: impl.CsDone, Elem: 100 + n})
			want.Got, want.End = n+1, cap+n+1
			way := slices.Concat(takes, []int64{impl.AtFar, impl.AtRest})
			if n < more {
				want.Cells[cap+n].State = impl.CsKept
				want.Words[n] = impl.WdCalled
				way = slices.Concat(takes, raises, []int64{impl.AtRest})
			}
			c = checkWhole(t, c, want, impl.Resting(impl.RpValue, 100+n), way...)
			var kept []int64
			for i := n + 1; i <= min(n+cap, cap+more-1); i++ {
				kept = append(kept, 100+i)
			}
			if x := impl.KeptIn(c); !slices.Equal(x, kept) {
				t.Fatalf("cap %d, receiver %d: %v are kept, not %v", cap, n, x, kept)
			}
		}
	}
}

// Promise 8: without a buffer nobody is let in: each one who waits is called by who takes it from him.
func TestWhoTakesOneWithoutABuffer(t *testing.T) {
	c := sentChan(t, 0, 4)
	for n := int64(0); n < 4; n++ {
		want := withCell(c, n, impl.Cell{State: impl.CsDone, Elem: 100 + n, Waiter: n + 1})
		want.Got, want.Words[n] = n+1, impl.WdCalled
		c = checkWhole(t, c, want, impl.Resting(impl.RpValue, 100+n),
			impl.AtView, impl.AtTake, impl.AtWake, impl.AtFinish, impl.AtGrow, impl.AtRest)
	}
	want := withWord(withCell(c, 4, impl.Cell{State: impl.CsRecv, Waiter: 5}))
	want.Got = 5
	hand := impl.Hand{At: impl.AtPark, Call: aRecv, Cell: 4, Come: 4, Mine: 5, Then: impl.ThPark}
	checkWhole(t, c, want, hand, append(comes, impl.AtPark)...)
}

// Promise 8: who is parked moves the end too, as far as there are cells; a sender who comes calls him all the same.
func TestWhoParksMovesTheEnd(t *testing.T) {
	for cap := int64(1); cap <= impl.MaxCap; cap++ {
		c := impl.NewChan(cap)
		for n := int64(0); n < impl.MaxCells; n++ {
			want := withWord(withCell(c, n, impl.Cell{State: impl.CsRecv, Waiter: n + 1}))
			want.Got, want.End = n+1, min(cap+n+1, impl.MaxCells)
			hand := impl.Hand{At: impl.AtPark, Call: aRecv, Cell: n, Mine: n + 1, Then: impl.ThPark}
			way := slices.Concat(comes, []int64{impl.AtPark})
			if cap+n < impl.MaxCells {
				hand.Grow = cap + n
				way = slices.Concat(comes, []int64{impl.AtFar, impl.AtPark})
			}
			c = checkWhole(t, c, want, hand, way...)
		}
		c, h, _ := sentAlone(t, c, 9)
		if h != impl.Resting(impl.RpOk, 0) || impl.WordOf(c, 1) != impl.WdCalled || c.Cells[0].State != impl.CsDone {
			t.Errorf("cap %d: %+v\nchannel %v", cap, h, c)
		}
	}
}

// Promise 8: who is gone, and who was stopped before he could be raised, are passed by: it goes on by
// one more each time, till somebody is let in.
func TestWhoGrowsPastWhoIsGone(t *testing.T) {
	c := sentChan(t, 1, 6)
	for _, w := range []int64{1, 3, 4} {
		c, _ = impl.Told(c, w, impl.WdStopped)
	}
	c.Cells[1].State, c.Cells[3].State = impl.CsGoneSend, impl.CsGoneSend
	want := withCell(c, 0, impl.Cell{State: impl.CsDone, Elem: 100})
	want.Got, want.End, want.Words[1] = 1, 3, impl.WdCalled
	want.Cells[2].State = impl.CsKept
	c = checkWhole(t, c, want, impl.Resting(impl.RpValue, 100), slices.Concat(takes, passes, raises, []int64{impl.AtRest})...)
	c = withCell(c, 1, impl.Cell{State: impl.CsDone}) // so that cell 2 is the next one
	c.Got = 2
	want = withCell(c, 2, impl.Cell{State: impl.CsDone, Elem: 102})
	want.Got, want.End, want.Words[4] = 3, 6, impl.WdCalled
	want.Cells[4].State, want.Cells[5].State = impl.CsGoneSend, impl.CsKept
	checkWhole(t, c, want, impl.Resting(impl.RpValue, 102), slices.Concat(takes, passes, loses, raises, []int64{impl.AtRest})...)
}

// Where all are gone it goes on to the last cell, and ends there.
func TestWhoGrowsToTheLastCell(t *testing.T) {
	c := withCell(impl.NewChan(1), 0, impl.Cell{State: impl.CsKept, Elem: 4})
	for n := 1; n < impl.MaxCells; n++ {
		c.Cells[n].State = impl.CsGoneSend
	}
	c.Sent = impl.MaxCells
	want := withCell(c, 0, impl.Cell{State: impl.CsDone, Elem: 4})
	want.Got, want.End = 1, impl.MaxCells
	way := slices.Clone(takes)
	for range impl.MaxCells - 1 {
		way = append(way, passes...)
	}
	checkWhole(t, c, want, impl.Resting(impl.RpValue, 4), append(way, impl.AtRest)...)
}

// walked makes so many steps.
func walked(t *testing.T, c impl.Chan, h impl.Hand, steps int) (impl.Chan, impl.Hand) {
	t.Helper()
	for range steps {
		is := false
		if c, h, is = placeStep(c, h); !is {
			t.Fatalf("no step of %+v", h)
		}
	}
	return c, h
}

// Promise 8: a sender who read the end before it was moved, and has left nothing yet, finds that there is room.
func TestWhoGrowsAheadOfWhoSends(t *testing.T) {
	for steps := 1; steps < len(parks); steps++ { // how far he came: not parked yet
		c, sender := walked(t, sentChan(t, 1, 1), impl.Hand{At: impl.AtSend, Call: aSend}, steps)
		c, h, places := receivedWhole(t, c)
		way := slices.Concat(takes, []int64{impl.AtFar, impl.AtMeet, impl.AtPull, impl.AtRest})
		if h != impl.Resting(impl.RpValue, 100) || !slices.Equal(places, way) || c.Cells[1].State != impl.CsIn {
			t.Fatalf("%d steps: %+v by %v\nchannel %v", steps, h, places, c)
		}
		for range 6 {
			if sender.At != impl.AtRest {
				c, sender = walked(t, c, sender, 1)
			}
		}
		if sender != impl.Resting(impl.RpOk, 0) || c.Cells[1] != (impl.Cell{State: impl.CsKept, Elem: 7}) {
			t.Errorf("%d steps: %+v\nchannel %v", steps, sender, c)
		}
	}
}

// Who meets a sender who is being called by another receiver waits till that one is done, be it that
// he had what he came for, or that the sender was stopped: then it goes on by one more.
func TestWhoGrowsWaitsForWhoCalls(t *testing.T) {
	for _, stopped := range []bool{false, true} {
		c := sentChan(t, 1, 3)
		c, first := walked(t, c, impl.Hand{At: impl.AtRecv, Call: aRecv}, 3)
		c, second := walked(t, c, impl.Hand{At: impl.AtRecv, Call: aRecv}, 3)
		if stopped {
			c, _ = impl.Told(c, 1, impl.WdStopped)
		}
		c, first = walked(t, c, first, 2)
		if first.At != impl.AtMeet || second.At != impl.AtWake {
			t.Fatalf("%+v and %+v", first, second)
		}
		checkWaits(t, impl.GrowStep, c, first)
		c, second = walked(t, c, second, 1)
		checkWaits(t, impl.GrowStep, c, first)
		c, _ = walked(t, c, second, 1)
		c, first = walked(t, c, first, 1)
		if !stopped && first != impl.Resting(impl.RpValue, 100) {
			t.Errorf("he was called: %+v", first)
		}
		if stopped {
			c, first = walked(t, c, first, 6)
			if first != impl.Resting(impl.RpValue, 100) || c.Cells[2].State != impl.CsKept || c.End != 3 {
				t.Errorf("he was stopped: %+v\nchannel %v", first, c)
			}
		}
	}
}

// A receiver waits, too, for who is being raised into the buffer, and then takes what he left.
func TestWhoReceivesWaitsForWhoRaises(t *testing.T) {
	c := sentChan(t, 1, 2)
	c, first := walked(t, c, impl.Hand{At: impl.AtRecv, Call: aRecv}, 7)
	c, second := walked(t, c, impl.Hand{At: impl.AtRecv, Call: aRecv}, 1)
	for _, at := range []int64{impl.AtRaise, impl.AtKeep} {
		if first.At != at {
			t.Fatalf("%+v", first)
		}
		checkWaits(t, impl.RecvStep, c, second)
		c, first = walked(t, c, first, 1)
	}
	c, second = walked(t, c, second, 4)
	want := impl.Resting(impl.RpValue, 101)
	if first != impl.Resting(impl.RpValue, 100) || second != want || c.Cells[1].State != impl.CsDone || c.Words[0] != impl.WdCalled {
		t.Errorf("%+v and %+v\nchannel %v", first, second, c)
	}
}

// waiting counts who is parked, and was told nothing yet.
func waiting(c impl.Chan, hands []impl.Hand) (senders, receivers int) {
	for _, h := range hands {
		if h.At == impl.AtPark && impl.WordOf(c, h.Mine) == 0 {
			if h.Call.Code == impl.OpSend {
				senders++
			} else {
				receivers++
			}
		}
	}
	return senders, receivers
}

// checkLetIn asks that nobody waits to send while there is room, nor to receive while there is something.
func checkLetIn(t *testing.T, c impl.Chan, hands []impl.Hand) {
	t.Helper()
	senders, receivers := waiting(c, hands)
	kept := len(impl.KeptIn(c))
	if kept > int(c.Cap) || senders > 0 && kept < int(c.Cap) || receivers > 0 && kept+senders > 0 {
		t.Fatalf("%d are kept, %d wait to send, and %d to receive\n%+v\nchannel %v", kept, senders, receivers, hands, c)
	}
}

// wholeTurns are turns till all are at rest or parked.
func wholeTurns(t *testing.T, most int64, elems []int64) turns {
	return turns{
		t: t, step: placeStep, done: []int64{impl.AtRest, impl.AtPark}, most: most, seen: map[moment]bool{},
		check: func(c impl.Chan, hands []impl.Hand) {
			checkServed(t, c, hands, elems)
			checkLetIn(t, c, hands)
		},
	}
}

// Promise 8: senders and receivers by turns, in every order, till all are at rest or parked.
func TestWhoGrowsInAnyOrder(t *testing.T) {
	for cap := int64(0); cap <= 2; cap++ {
		inWholeOrders(t, cap, reach, 7, 0) // two can go anew as often as there are cells
	}
	for cap := int64(0); cap <= 1; cap++ {
		inWholeOrders(t, cap, 3, 7, 8, 0)
		inWholeOrders(t, cap, 3, 7, 0, 0)
	}
}

func inWholeOrders(t *testing.T, cap, most int64, elems ...int64) {
	t.Helper()
	u := wholeTurns(t, most, elems)
	u.inAnyOrder(impl.NewChan(cap), comers(elems))
	if u.ends < 6 {
		t.Errorf("cap %d, elems %v: only %d ends", cap, elems, u.ends)
	}
}

// cameAlone has the first of those who come at work, one after the other, till they are at rest or parked.
func cameAlone(t *testing.T, cap int64, elems []int64, came int) (impl.Chan, []impl.Hand) {
	t.Helper()
	c, hands := impl.NewChan(cap), comers(elems)
	for i := range came {
		for hands[i].At != impl.AtRest && hands[i].At != impl.AtPark {
			c, hands[i] = walked(t, c, hands[i], 1)
		}
	}
	return c, hands
}

// Promise 8: who takes one lets one in, whoever is stopped just then; some senders came before.
func TestWhoGrowsWhereSomeAreStopped(t *testing.T) {
	for came, elems := range [][]int64{1: {7, 8, 9, 0}, 2: {7, 8, 9, 0, 0}, 3: {7, 8, 9, 0, 0}} {
		for cap := int64(1); came > 0 && cap <= 2; cap++ {
			c, hands := cameAlone(t, cap, elems, came)
			u := wholeTurns(t, 4, elems)
			u.stops = true
			u.inAnyOrder(c, hands)
			if u.ends < 4 {
				t.Errorf("cap %d, %d of %v came: only %d ends", cap, came, elems, u.ends)
			}
		}
	}
}

func TestGrowStepOfWrongChans(t *testing.T) { checkWrongChans(t, impl.GrowStep, aRecv) }

// A step that would mend the channel is refused: it was not right before.
func TestGrowStepMendsNothing(t *testing.T) {
	pull := handAt(impl.AtPull, aRecv)
	pull.Seen = impl.CsNone
	checkRefused(t, impl.GrowStep, withCell(busyChan(), 15, impl.Cell{Waiter: 21}), pull)
	for _, at := range []int64{impl.AtKeep, impl.AtLose} {
		checkRefused(t, impl.GrowStep, withCell(busyChan(), 15, impl.Cell{State: statesInAll}), handAt(at, aRecv))
	}
	c := busyChan()
	c.End = -1
	checkRefused(t, impl.GrowStep, c, handAt(impl.AtGrow, aRecv))
	c = busyChan()
	c.Words[11] = -1
	checkRefused(t, impl.GrowStep, c, handAt(impl.AtRaise, aRecv))
}

// What is not right goes ahead of who waits, and of who is grown at once.
func TestGrowStepOfWhatIsNotRightFirst(t *testing.T) {
	waits, bare := withCell(busyChan(), 15, impl.Cell{State: impl.CsCall}), busyChan()
	bare.Cap = 0
	checkWaits(t, impl.GrowStep, waits, handAt(impl.AtMeet, aRecv))
	for _, p := range handParts()[1:] {
		for _, n := range p.past() {
			h := handAt(impl.AtMeet, aRecv)
			p.put(&h, n)
			checkRefused(t, impl.GrowStep, waits, h)
			checkRefused(t, impl.GrowStep, bare, movedTo(h, impl.AtGrow))
		}
	}
	checkRefused(t, impl.GrowStep, waits, handAt(impl.AtMeet, aSend))
	checkRefused(t, impl.GrowStep, bare, handAt(impl.AtGrow, aSend))
	waits.Cells[11].Waiter, bare.Cells[11].Waiter = 21, 21
	checkRefused(t, impl.GrowStep, waits, handAt(impl.AtMeet, aRecv))
	checkRefused(t, impl.GrowStep, bare, handAt(impl.AtGrow, aRecv))
}

func TestGrowStepOfWrongHands(t *testing.T) {
	checkWrongHands(t, impl.GrowStep, withCell(busyChan(), 15, impl.Cell{}), impl.AtGrow, impl.AtLose, aRecv)
}

func TestGrowStepAtOtherPlaces(t *testing.T) {
	checkOtherPlaces(t, impl.GrowStep, impl.AtGrow, impl.AtLose, aRecv)
	checkOtherPlaces(t, impl.GrowStep, impl.AtGrow, impl.AtLose, aSend)
	for at := int64(impl.AtMark) + 1; at < 100; at++ {
		checkRefused(t, impl.GrowStep, busyChan(), handAt(at, aRecv))
	}
}

func TestGrowStepOfAnotherCall(t *testing.T) {
	checkAnotherCall(t, impl.GrowStep, aSend)
	checkAnotherCall(t, impl.GrowStep, impl.Call{Code: impl.OpSend})
}

func growCases() ([]impl.Chan, []impl.Hand) {
	chans, some := stepCases(impl.AtGrow, impl.AtLose, aRecv)
	var hands []impl.Hand
	for _, h := range some {
		hands = append(hands, eachThen(h)...)
	}
	return chans, hands
}

// Promise 19: there is an answer, of its kind and right, whatever is seen and is there.
func TestGrowStepAnswersAtEveryArgument(t *testing.T) {
	chans, hands := growCases()
	for _, c := range chans {
		for _, h := range hands {
			waits := h.At == impl.AtMeet && c.Cells[h.Grow].State == impl.CsCall
			told := h.At != impl.AtPull || h.Seen == impl.CsNone || h.Seen == impl.CsSend
			checkKind(t, impl.GrowStep, c, h, told && !waits, waits)
		}
	}
}

func TestGrowStepOfOddNumbers(t *testing.T) {
	in := func(n, most int64) bool { return n >= 0 && n <= most }
	for _, n := range oddNumbers() {
		for _, m := range oddNumbers() {
			c := busyChan()
			c.Cap, c.End = n, m
			if _, _, is := impl.GrowStep(c, handAt(impl.AtGrow, aRecv)); is != (in(n, 4) && in(m, 40)) {
				t.Fatalf("cap %d, end %d: %v", n, m, is)
			}
			c = busyChan()
			c.Sent = n
			h := handAt(impl.AtFar, aRecv)
			h.Grow = m
			if _, _, is := impl.GrowStep(c, h); is != (in(n, 40) && in(m, 39)) {
				t.Fatalf("sent %d, grow %d: %v", n, m, is)
			}
			h = handAt(n, impl.Call{Code: m})
			h.Seen = impl.CsSend
			if _, _, is := impl.GrowStep(busyChan(), h); is != (n >= 16 && n <= 22 && m == 2) {
				t.Fatalf("at %d, code %d: %v", n, m, is)
			}
			h = handAt(impl.AtLose, aRecv)
			h.Then, h.Out = n, m
			if _, _, is := impl.GrowStep(busyChan(), h); is != (in(n, 2) && in(m, 999)) {
				t.Fatalf("then %d, out %d: %v", n, m, is)
			}
		}
	}
	checkListLengths(t, impl.GrowStep, impl.AtGrow, impl.AtLose, aRecv)
}

// growKinds lists one hand of each kind of step with each Then, and those who wait first, where cell i has state i % statesInAll.
func growKinds() []impl.Hand {
	waits := handAt(impl.AtMeet, aRecv)
	waits.Grow = impl.CsCall
	hands := eachThen(waits)
	for at := int64(impl.AtGrow); at <= impl.AtLose; at++ {
		for _, seen := range []int64{impl.CsNone, impl.CsSend} {
			for _, waiter := range []int64{2, 12} {
				h := handAt(at, aRecv)
				h.Seen, h.Waiter = seen, waiter
				for _, h.Grow = range []int64{impl.CsNone, impl.CsSend, impl.CsDone, 11} {
					hands = append(hands, eachThen(h)...)
				}
			}
		}
	}
	return hands
}

// Promise 19: answers are new memory, that of who waits too.
func TestGrowStepsAreNewMemory(t *testing.T) {
	for _, c := range []impl.Chan{busyChan(), fullChan()} {
		for i, h := range growKinds() {
			checkKind(t, impl.GrowStep, c, h, i > 2, i <= 2)
		}
		checkNewMemory(t, impl.GrowStep, c, growKinds())
	}
}

// Promise 19: arguments stay.
func TestGrowStepsLeaveTheirArguments(t *testing.T) {
	_, hands := growCases()
	checkArgumentsStay(t, impl.GrowStep, impl.Cell{}, append(hands, growKinds()...))
}
