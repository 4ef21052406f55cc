package tests

import (
	"slices"
	"testing"

	"loop.example/g00794/impl"
)

// parkCalls lists who may be parked.
func parkCalls() []impl.Call {
	return []impl.Call{aRecv, aSend, {Code: impl.OpSend}, {Code: impl.OpSend, Elem: impl.MaxElem}}
}

// parkHands lists hands of that Call at that place, with each Then, whose Mine it is; in the first
// cell, in the last one, in the one that is Grow too, and in another one.
func parkHands(at, mine int64, call impl.Call) []impl.Hand {
	var list []impl.Hand
	for _, number := range []int64{0, 11, 15, impl.MaxCells - 1} {
		h := handAt(at, call)
		h.Cell, h.Mine = number, mine
		list = append(list, eachThen(h)...)
	}
	return list
}

// oneWord is a busyChan with that many words, all of which are other but for that of w.
func oneWord(words int, w, word, other int64) impl.Chan {
	c := worded(slices.Repeat([]int64{other}, words)...)
	c.Words[w-1] = word
	c.Sent, c.Got, c.End = 25, 26, 27
	return c
}

// checkHeard asks what becomes of who is parked, by the word.
func checkHeard(t *testing.T, c impl.Chan, h impl.Hand, word int64) {
	t.Helper()
	switch {
	case word == 0:
		checkWaits(t, impl.ParkStep, c, h)
	case word == impl.WdStopped:
		checkStep(t, impl.ParkStep, c, h, c, movedTo(h, impl.AtMark))
	case h.Call.Code == impl.OpSend:
		checkStep(t, impl.ParkStep, c, h, c, impl.Hand{Reply: impl.RpOk})
	default:
		checkStep(t, impl.ParkStep, c, h, c, movedTo(h, impl.AtFetch))
	}
}

// It is the word of Mine, from the first one to the last one, whatever the others have heard.
func TestParkHearsTheWordOfMine(t *testing.T) {
	for _, words := range []int{1, 2, 20, impl.MaxWords - 1, impl.MaxWords} {
		for mine := int64(1); mine <= int64(words); mine++ {
			for word := int64(0); word <= impl.WdStopped; word++ {
				for other := int64(0); other <= impl.WdStopped; other++ {
					for _, call := range parkCalls() {
						h := handAt(impl.AtPark, call)
						h.Mine = mine
						checkHeard(t, oneWord(words, mine, word, other), h, word)
					}
				}
			}
		}
	}
}

// Neither the cell nor the counters are asked where who is parked hears his word.
func TestParkHearsItWhateverIsThere(t *testing.T) {
	for word := int64(0); word <= impl.WdStopped; word++ {
		full, bare := fullChan(), oneWord(20, 16, word, 0)
		full.Words[15] = word
		bare.Cap, bare.Sent, bare.Got, bare.End = 0, 0, 0, 0
		for _, state := range statesBut() {
			for _, waiter := range []int64{0, 1, 16, 20} {
				cell := impl.Cell{State: state, Elem: 8, Waiter: waiter}
				for _, call := range parkCalls() {
					for _, h := range parkHands(impl.AtPark, 16, call) {
						for _, c := range []impl.Chan{oneWord(20, 16, word, 0), bare, full} {
							checkHeard(t, withCell(c, h.Cell, cell), h, word)
						}
					}
				}
			}
		}
	}
}

// Neither who was seen in the cell, nor the Waiter of it, has a say where another one is Mine.
func TestParkHearsNobodyElse(t *testing.T) {
	for word := int64(0); word <= impl.WdStopped; word++ {
		for other := int64(0); other <= impl.WdStopped; other++ {
			c := withCell(oneWord(20, 7, word, other), 11, impl.Cell{State: impl.CsSend, Waiter: 5})
			for _, seen := range statesBut() {
				for _, call := range parkCalls() {
					h := handAt(impl.AtPark, call)
					h.Mine, h.Waiter, h.Seen = 7, 8, seen
					checkHeard(t, c, h, word)
				}
			}
		}
	}
}

// It is what lies in the cell, whatever the hand had and whatever its word is; it lies there still.
func TestParkFetches(t *testing.T) {
	for word := int64(0); word <= impl.WdStopped; word++ {
		for _, h := range parkHands(impl.AtFetch, 16, aRecv) {
			for _, state := range statesBut() {
				for _, cell := range viewCells(state) {
					c := withCell(oneWord(20, 16, word, 0), h.Cell, cell)
					checkStep(t, impl.ParkStep, c, h, c, impl.Hand{Reply: impl.RpValue, Out: cell.Elem})
				}
			}
		}
	}
}

// It is what lies in the own cell, of all cells; nothing is needed there where all is full.
func TestParkFetchesFromEachCell(t *testing.T) {
	for number := int64(0); number < impl.MaxCells; number++ {
		for mine := int64(1); mine <= impl.MaxWords; mine++ {
			h := handAt(impl.AtFetch, aRecv)
			h.Cell, h.Mine, h.Grow = number, mine, impl.MaxCells-1-number
			c := fullChan()
			checkStep(t, impl.ParkStep, c, h, c, impl.Hand{Reply: impl.RpValue, Out: c.Cells[number].Elem})
		}
	}
}

// goneBy is the State that who is stopped leaves.
func goneBy(call impl.Call) int64 {
	if call.Code == impl.OpSend {
		return impl.CsGoneSend
	}
	return impl.CsGoneRecv
}

// The Elem and the Waiter of the cell stay, and it is not asked what State it had, nor the word.
func TestParkMarks(t *testing.T) {
	for word := int64(0); word <= impl.WdStopped; word++ {
		for _, call := range parkCalls() {
			for _, h := range parkHands(impl.AtMark, 16, call) {
				for _, state := range statesBut() {
					for _, cell := range viewCells(state) {
						c := withCell(oneWord(20, 16, word, 0), h.Cell, cell)
						want := cloneChan(c)
						want.Cells[h.Cell].State = goneBy(call)
						checkStep(t, impl.ParkStep, c, h, want, impl.Hand{Reply: impl.RpStopped})
					}
				}
			}
		}
	}
}

// It is the own cell, of all cells, be it with the first word or with the last one.
func TestParkMarksEachCell(t *testing.T) {
	for number := int64(0); number < impl.MaxCells; number++ {
		for _, mine := range []int64{1, 2, 3, impl.MaxWords - 1, impl.MaxWords} {
			for _, call := range parkCalls() {
				h := handAt(impl.AtMark, call)
				h.Cell, h.Mine, h.Grow = number, mine, impl.MaxCells-1-number
				want := fullChan()
				want.Cells[number].State = goneBy(call)
				checkStep(t, impl.ParkStep, fullChan(), h, want, impl.Hand{Reply: impl.RpStopped})
			}
		}
	}
}

// parkedAlone goes on till who comes is parked.
func parkedAlone(t *testing.T, c impl.Chan, call impl.Call) (impl.Chan, impl.Hand) {
	t.Helper()
	c, h, _ := doneAlone(t, placeStep, c, call, impl.AtRest, impl.AtPark)
	if h.At != impl.AtPark {
		t.Fatalf("not parked: %+v", h)
	}
	checkWaits(t, impl.ParkStep, c, h)
	return c, h
}

// checkRests asks who is parked to rest by just that way, with that Reply and that Out.
func checkRests(t *testing.T, c impl.Chan, h impl.Hand, reply, out int64, way ...int64) impl.Chan {
	t.Helper()
	for _, at := range way {
		if h.At != at {
			t.Fatalf("%+v is not at %d", h, at)
		}
		c, h = walked(t, c, h, 1)
	}
	if h != impl.Resting(reply, out) {
		t.Fatalf("%+v\nchannel %v", h, c)
	}
	return c
}

// callsParked goes on with who comes till he is at rest. Ahead of that many of his steps who is
// parked waits; from then on he can rest with that, whenever he goes on.
func callsParked(t *testing.T, c impl.Chan, comer, parked impl.Hand, after int, want impl.Hand) (impl.Chan, impl.Hand) {
	t.Helper()
	for step := 0; comer.At != impl.AtRest; step++ {
		if step < after {
			checkWaits(t, impl.ParkStep, c, parked)
		} else {
			x, h := walked(t, c, parked, 1)
			if h.At == impl.AtFetch {
				x, h = walked(t, x, h, 1)
			}
			if h != want || !sameChan(x, c) {
				t.Fatalf("%+v, not %+v\nchannel %v\nnot     %v", h, want, x, c)
			}
		}
		c, comer = walked(t, c, comer, 1)
	}
	return c, comer
}

// Promise 9: a sender who is parked goes on when he is called, and what he sent is received.
func TestWhoSendsIsParkedAndThenCalled(t *testing.T) {
	for cap := int64(0); cap <= impl.MaxCap; cap++ {
		c, sender := parkedAlone(t, sentChan(t, cap, cap), aSend)
		first, steps := int64(100), 8 // he is raised into the buffer by who takes what is kept
		if cap == 0 {
			first, steps = aSend.Elem, 4 // he is called by who takes it from him
		}
		c, h := callsParked(t, c, impl.Hand{At: impl.AtRecv, Call: aRecv}, sender, steps, impl.Resting(impl.RpOk, 0))
		if h != impl.Resting(impl.RpValue, first) {
			t.Fatalf("cap %d: %+v", cap, h)
		}
		before := c
		c = checkRests(t, c, sender, impl.RpOk, 0, impl.AtPark)
		if !sameChan(c, before) {
			t.Fatalf("cap %d: who is called left %v", cap, c)
		}
		for n := int64(1); n <= cap; n++ {
			want := 100 + n
			if n == cap {
				want = aSend.Elem
			}
			if c, h, _ = receivedWhole(t, c); h != impl.Resting(impl.RpValue, want) {
				t.Fatalf("cap %d, receiver %d: %+v", cap, n, h)
			}
		}
	}
}

// Promise 9: a receiver who is parked goes on when he is called, with what was sent to him.
func TestWhoReceivesIsParkedAndThenCalled(t *testing.T) {
	for cap := int64(0); cap <= impl.MaxCap; cap++ {
		for _, elem := range []int64{0, 7, impl.MaxElem} {
			c, receiver := parkedAlone(t, impl.NewChan(cap), aRecv)
			comer := impl.Hand{At: impl.AtSend, Call: impl.Call{Code: impl.OpSend, Elem: elem}}
			c, h := callsParked(t, c, comer, receiver, 4, impl.Resting(impl.RpValue, elem))
			if h != impl.Resting(impl.RpOk, 0) {
				t.Fatalf("cap %d: %+v", cap, h)
			}
			x := checkRests(t, c, receiver, impl.RpValue, elem, impl.AtPark, impl.AtFetch)
			if !sameChan(x, c) || x.Cells[0] != (impl.Cell{State: impl.CsDone, Elem: elem, Waiter: 1}) {
				t.Fatalf("cap %d: %v", cap, x)
			}
		}
	}
}

// Many are parked and called one after the other, in their order, each with what is his, whoever goes on first then.
func TestManyAreParkedAndThenCalled(t *testing.T) {
	const many = 5
	for _, turn := range []func(list []impl.Hand){func([]impl.Hand) {}, slices.Reverse[[]impl.Hand]} {
		c := impl.NewChan(1)
		var hands []impl.Hand
		for n := int64(0); n < many; n++ {
			var h impl.Hand
			c, h = parkedAlone(t, c, aRecv)
			hands = append(hands, h)
		}
		for n := int64(0); n < many; n++ {
			c, _, _ = sentAlone(t, c, 200+n)
		}
		turn(hands)
		for _, h := range hands {
			c = checkRests(t, c, h, impl.RpValue, 200+h.Cell, impl.AtPark, impl.AtFetch)
		}
	}
}

// toldStopped stops who is parked.
func toldStopped(t *testing.T, c impl.Chan, h impl.Hand) impl.Chan {
	t.Helper()
	x, is := impl.Told(c, h.Mine, impl.WdStopped)
	if !is {
		t.Fatalf("%+v is not stopped\nchannel %v", h, c)
	}
	return x
}

// checkLeaves asks who was stopped to rest, and the channel to have just his State in his cell then.
func checkLeaves(t *testing.T, c impl.Chan, h impl.Hand) impl.Chan {
	t.Helper()
	want := cloneChan(c)
	want.Cells[h.Cell].State = goneBy(h.Call)
	x := checkRests(t, c, h, impl.RpStopped, 0, impl.AtPark, impl.AtMark)
	if !sameChan(x, want) {
		t.Fatalf("he left %v\nnot     %v", x, want)
	}
	return x
}

// Promise 9: what a sender who is stopped would have sent is neither kept nor received: his cell is passed by.
func TestWhoSendsIsParkedAndThenStopped(t *testing.T) {
	for cap := int64(0); cap <= impl.MaxCap; cap++ {
		c, sender := parkedAlone(t, sentChan(t, cap, cap), aSend)
		c, next := parkedAlone(t, c, impl.Call{Code: impl.OpSend, Elem: 9})
		c = checkLeaves(t, toldStopped(t, c, sender), sender)
		for n := int64(0); n <= cap; n++ {
			want, h := 100+n, impl.Hand{}
			if n == cap {
				want = 9
			}
			if c, h, _ = receivedWhole(t, c); h != impl.Resting(impl.RpValue, want) {
				t.Fatalf("cap %d, receiver %d: %+v", cap, n, h)
			}
		}
		c = checkRests(t, c, next, impl.RpOk, 0, impl.AtPark)
		if kept := impl.KeptIn(c); len(kept) > 0 || c.Cells[cap].State != impl.CsGoneSend {
			t.Fatalf("cap %d: %v are kept\nchannel %v", cap, kept, c)
		}
		parkedAlone(t, c, aRecv)
	}
}

// Promise 9: nobody is served in the cell of a receiver who is stopped: what is sent then goes on to the next one.
func TestWhoReceivesIsParkedAndThenStopped(t *testing.T) {
	for cap := int64(0); cap <= impl.MaxCap; cap++ {
		c, receiver := parkedAlone(t, impl.NewChan(cap), aRecv)
		c, next := parkedAlone(t, c, aRecv)
		c = checkLeaves(t, toldStopped(t, c, receiver), receiver)
		c, h, places := sentAlone(t, c, 7)
		way := []int64{
			impl.AtLay, impl.AtLook, impl.AtSend, impl.AtLay, impl.AtLook, impl.AtCall, impl.AtDone, impl.AtRest,
		}
		if h != impl.Resting(impl.RpOk, 0) || !slices.Equal(places, way) || c.Cells[0].State != impl.CsGoneRecv {
			t.Fatalf("cap %d: %+v by %v\nchannel %v", cap, h, places, c)
		}
		checkRests(t, c, next, impl.RpValue, 7, impl.AtPark, impl.AtFetch)
	}
}

// Who is stopped while somebody is about to call him leaves the same, be it ahead of what that one
// does then or behind it.
func TestWhoIsStoppedJustWhenHeIsBeingCalled(t *testing.T) {
	for cap := int64(0); cap <= impl.MaxCap; cap++ {
		checkStoppedJustThen(t, cap, aRecv, aSend, 1) // at AtCall
	}
	checkStoppedJustThen(t, 0, aSend, aRecv, 2) // at AtWake
}

// checkStoppedJustThen has somebody parked, and another one come who will go anew by that many steps.
func checkStoppedJustThen(t *testing.T, cap int64, first, second impl.Call, steps int) {
	t.Helper()
	anew, _ := impl.Called(impl.Resting(0, 0), second)
	c, parked := parkedAlone(t, impl.NewChan(cap), first)
	c, comer := walked(t, c, anew, 3)
	c = toldStopped(t, c, parked)
	for late := range steps + 1 {
		x, h := walked(t, c, comer, late)
		x = checkRests(t, x, parked, impl.RpStopped, 0, impl.AtPark, impl.AtMark)
		x, h = walked(t, x, h, steps-late)
		if h != anew || x.Cells[0].State != goneBy(first) {
			t.Errorf("cap %d, late by %d: %+v\nchannel %v", cap, late, h, x)
		}
	}
}

// Who was called can't be stopped any more, and goes on; who was stopped can't be called, and leaves.
func TestWhoIsToldTwiceHearsTheFirstWord(t *testing.T) {
	for _, call := range parkCalls() {
		c, h := parkedAlone(t, impl.NewChan(0), call)
		for _, first := range bothWords {
			x, _ := impl.Told(c, h.Mine, first)
			for _, second := range bothWords {
				x, _ = impl.Told(x, h.Mine, second)
			}
			checkHeard(t, x, h, first)
		}
	}
}

// checkRested asks that who is parked still waits, in a cell that tells so, and that as many were
// replied that they were stopped as were stopped.
func checkRested(t *testing.T, c impl.Chan, hands []impl.Hand) {
	t.Helper()
	waits, stopped := map[int64]int64{}, 0
	for _, h := range hands {
		switch {
		case h.At == impl.AtPark && impl.WordOf(c, h.Mine) == 0:
			waits[h.Mine] = h.Cell
		case h.At != impl.AtRest:
			t.Fatalf("%+v goes on no more\nchannel %v", h, c)
		case h.Reply == impl.RpStopped:
			stopped++
		}
	}
	for _, word := range c.Words {
		if word == impl.WdStopped {
			stopped--
		}
	}
	cells := append(impl.WaitingIn(c, impl.CsSend), impl.WaitingIn(c, impl.CsRecv)...)
	for _, number := range cells {
		if at, is := waits[c.Cells[number].Waiter]; !is || at != number {
			t.Fatalf("nobody waits in cell %d\n%+v\nchannel %v", number, hands, c)
		}
	}
	if len(cells) != len(waits) || stopped != 0 {
		t.Fatalf("%d wait, in cells %v; stopped are %d more than were told so\n%+v\nchannel %v", len(waits), cells, stopped, hands, c)
	}
}

// restTurns are turns till all are at rest, or are parked and wait; they may be stopped at any time.
func restTurns(t *testing.T, most int64, elems []int64) turns {
	u := wholeTurns(t, most, elems)
	u.done, u.stops = []int64{impl.AtRest}, true
	u.check = func(c impl.Chan, hands []impl.Hand) {
		checkServed(t, c, hands, elems)
		checkLetIn(t, c, hands)
		checkRested(t, c, hands)
	}
	return u
}

// Promise 9: senders and receivers by turns, in every order, whoever is stopped, and whenever.
func TestWhoIsParkedInAnyOrder(t *testing.T) {
	for cap := int64(0); cap <= 2; cap++ {
		for _, elems := range [][]int64{{7, 0}, {7, 8, 0}, {7, 0, 0}} {
			if len(elems) > 2 && cap > 0 {
				continue // these orders are many, and without a buffer most of them come to be parked
			}
			restInAnyOrder(t, cap, 3, 0, elems...)
		}
	}
}

// The same where some came before: who is parked then may be let in, called, or stopped.
func TestWhoIsParkedWhereSomeCameBefore(t *testing.T) {
	for cap := int64(0); cap <= 1; cap++ {
		restInAnyOrder(t, cap, 4, 1, 7, 8, 0)
		restInAnyOrder(t, cap, 4, 2, 7, 8, 0, 0)
		restInAnyOrder(t, cap, 4, 3, 7, 8, 9, 0)
		restInAnyOrder(t, cap, 4, 1, 0, 7, 8)
		restInAnyOrder(t, cap, 4, 2, 0, 0, 7, 8)
		restInAnyOrder(t, cap, 4, 3, 0, 0, 0, 7)
	}
}

// restInAnyOrder has the first of those who come parked, or at rest, before the others begin.
func restInAnyOrder(t *testing.T, cap, most int64, came int, elems ...int64) {
	t.Helper()
	c, hands := cameAlone(t, cap, elems, came)
	u := restTurns(t, most, elems)
	u.inAnyOrder(c, hands)
	if u.ends < 3 {
		t.Errorf("cap %d, %d of %v came: only %d ends", cap, came, elems, u.ends)
	}
}

func TestParkStepOfWrongChans(t *testing.T) {
	for _, call := range parkCalls() {
		checkWrongChans(t, impl.ParkStep, call)
	}
}

// A step that would mend the channel is refused, and so is one that would answer what is not right there.
func TestParkStepMendsNothing(t *testing.T) {
	for _, call := range parkCalls() {
		for at := int64(impl.AtPark); at <= impl.AtMark; at++ {
			h := handAt(at, call)
			checkRefused(t, impl.ParkStep, withCell(busyChan(), 11, impl.Cell{State: statesInAll}), h)
			checkRefused(t, impl.ParkStep, withCell(busyChan(), 11, impl.Cell{Elem: impl.MaxElem + 1}), h)
			checkRefused(t, impl.ParkStep, withCell(busyChan(), 11, impl.Cell{Waiter: 21}), h)
			for _, word := range []int64{-1, 3} {
				checkRefused(t, impl.ParkStep, oneWord(20, 16, word, 0), h)
				checkRefused(t, impl.ParkStep, oneWord(20, 16, 0, word), h)
			}
		}
	}
}

// What is not right goes ahead of what the word of Mine is.
func TestParkStepOfWrongHands(t *testing.T) {
	for word := int64(0); word <= impl.WdStopped; word++ {
		c := oneWord(20, 16, word, 0)
		for _, call := range parkCalls() {
			checkHeard(t, c, handAt(impl.AtPark, call), word)
			checkWrongHands(t, impl.ParkStep, c, impl.AtPark, impl.AtMark, call)
		}
	}
}

// strayPlaces lists places that are none of the table.
func strayPlaces() []int64 {
	list := slices.DeleteFunc(oddNumbers(), func(n int64) bool { return n >= impl.AtPark && n <= impl.AtMark })
	for at := int64(-3); at < impl.AtPark; at++ {
		list = append(list, at, at+impl.AtMark+4)
	}
	return list
}

// Who rests is refused too, whatever his Mine is.
func TestParkStepAtOtherPlaces(t *testing.T) {
	for _, call := range parkCalls() {
		checkOtherPlaces(t, impl.ParkStep, impl.AtPark, impl.AtMark, call)
		for _, at := range strayPlaces() {
			for word := int64(0); word <= impl.WdStopped; word++ {
				checkRefused(t, impl.ParkStep, oneWord(20, 16, word, 0), handAt(at, call))
			}
		}
	}
	for mine := int64(0); mine <= 4; mine++ {
		checkRefused(t, impl.ParkStep, fullChan(), impl.Hand{Mine: mine})
	}
}

// Who has no word is refused at each place: 0, and one more than there are, and as many as there may be.
func TestParkStepWithoutAWord(t *testing.T) {
	for _, words := range []int{0, 1, 20, impl.MaxWords - 1, impl.MaxWords} {
		for word := int64(0); word <= impl.WdStopped; word++ {
			c := worded(slices.Repeat([]int64{word}, words)...)
			for _, mine := range []int64{-1, 0, int64(words) + 1, max(int64(words)+1, impl.MaxWords), impl.MaxWords + 1} {
				for at := int64(impl.AtPark); at <= impl.AtMark; at++ {
					for _, call := range parkCalls() {
						for _, h := range parkHands(at, mine, call) {
							checkRefused(t, impl.ParkStep, c, h)
						}
					}
				}
			}
		}
	}
}

// A sender has nothing to fetch, whatever his word is and whatever lies there.
func TestParkStepFetchesForNoSender(t *testing.T) {
	for word := int64(0); word <= impl.WdStopped; word++ {
		for _, call := range parkCalls()[1:] {
			for _, h := range parkHands(impl.AtFetch, 16, call) {
				for _, state := range statesBut() {
					c := oneWord(20, 16, word, 0)
					checkRefused(t, impl.ParkStep, withCell(c, h.Cell, impl.Cell{State: state, Elem: 8, Waiter: 16}), h)
				}
			}
		}
	}
}

// parkCases lists right channels with each word first and last, and right hands with a word and without one.
func parkCases() ([]impl.Chan, []impl.Hand) {
	some, bare := stepCases(impl.AtPark, impl.AtMark, parkCalls()...)
	var chans []impl.Chan
	for _, c := range some {
		for word := int64(0); word <= impl.WdStopped; word++ {
			c = cloneChan(c)
			for i := range c.Words {
				c.Words[i] = (word + int64(i)) % 3
			}
			chans = append(chans, c)
		}
	}
	var hands []impl.Hand
	for _, h := range bare {
		if h.Seen != impl.CsSend && h.Seen != impl.CsRecv {
			continue // what was seen is not asked any more
		}
		for _, mine := range []int64{0, 1, 2, impl.MaxWords - 1, impl.MaxWords} {
			h.Mine = mine
			hands = append(hands, h)
		}
	}
	return chans, hands
}

// Promise 19: there is an answer, of its kind and right, whoever asks and whatever is there.
func TestParkStepAnswersAtEveryArgument(t *testing.T) {
	chans, hands := parkCases()
	for _, c := range chans {
		for _, h := range hands {
			has := h.Mine > 0 && h.Mine <= int64(len(c.Words))
			waits := has && h.At == impl.AtPark && c.Words[h.Mine-1] == 0
			told := has && (h.At != impl.AtFetch || h.Call.Code == impl.OpRecv)
			checkKind(t, impl.ParkStep, c, h, told && !waits, waits)
		}
	}
}

func TestParkStepOfOddNumbers(t *testing.T) {
	in := func(n, least, most int64) bool { return n >= least && n <= most }
	numbers := append(oddNumbers(), 20, 21, 22, 23, 24)
	for _, n := range numbers {
		for _, m := range numbers {
			c := busyChan()
			c.Cap, c.End = n, m
			if _, _, is := impl.ParkStep(c, handAt(impl.AtMark, aRecv)); is != (in(n, 0, 4) && in(m, 0, 40)) {
				t.Fatalf("cap %d, end %d: %v", n, m, is)
			}
			h := handAt(n, impl.Call{Code: m})
			h.Mine = 1 // who was called
			if _, _, is := impl.ParkStep(busyChan(), h); is != (in(n, 23, 25) && (m == 2 || m == 1 && n != 24)) {
				t.Fatalf("at %d, code %d: %v", n, m, is)
			}
			h = handAt(impl.AtFetch, aRecv)
			h.Cell, h.Mine = m, n
			if _, _, is := impl.ParkStep(busyChan(), h); is != (in(n, 1, 20) && in(m, 0, 39)) {
				t.Fatalf("mine %d, cell %d: %v", n, m, is)
			}
			h = handAt(impl.AtMark, impl.Call{Code: impl.OpSend, Elem: n})
			h.Then = m
			if _, _, is := impl.ParkStep(busyChan(), h); is != (in(n, 0, 999) && in(m, 0, 2)) {
				t.Fatalf("elem %d, then %d: %v", n, m, is)
			}
		}
	}
}

// Only just as many cells, and not more than as many words, have a step.
func TestParkStepOfListLengths(t *testing.T) {
	for words := range 100 {
		for cells := range 60 {
			c := impl.Chan{Cells: make([]impl.Cell, cells), Words: slices.Repeat([]int64{impl.WdCalled}, words)}
			for at := int64(impl.AtPark); at <= impl.AtMark; at++ {
				_, _, is := impl.ParkStep(c, impl.Hand{At: at, Call: aRecv, Mine: 1})
				if is != (cells == 40 && words >= 1 && words <= 80) {
					t.Fatalf("%d cells, %d words, at %d: %v", cells, words, at, is)
				}
			}
		}
	}
}

// parkKinds lists one hand of each kind of step, where words are 0, 1 and 2 by turns, and those that are refused, first.
func parkKinds() []impl.Hand {
	var refused, steps []impl.Hand
	for at := int64(impl.AtPark); at <= impl.AtMark; at++ {
		for _, call := range []impl.Call{aSend, aRecv} {
			for mine := int64(0); mine <= 3; mine++ {
				h := handAt(at, call)
				h.Mine = mine
				if mine == 0 || at == impl.AtFetch && call == aSend {
					refused = append(refused, h)
				} else {
					steps = append(steps, h)
				}
			}
		}
	}
	return append(refused, steps...)
}

// Promise 19: answers are new memory, that of who waits too.
func TestParkStepsAreNewMemory(t *testing.T) {
	for _, c := range []impl.Chan{fullChan(), worded(0, 1, 2, 0)} {
		for i, h := range parkKinds() {
			waits := i >= 9 && h.At == impl.AtPark && h.Mine == 1
			checkKind(t, impl.ParkStep, c, h, i >= 9 && !waits, waits)
		}
		checkNewMemory(t, impl.ParkStep, c, parkKinds())
	}
}

// Promise 19: arguments stay.
func TestParkStepsLeaveTheirArguments(t *testing.T) {
	_, hands := parkCases()
	checkArgumentsStay(t, impl.ParkStep, impl.Cell{State: impl.CsSend}, append(hands, parkKinds()...))
}

// panicOf is what comes out of the step, if it panics.
func panicOf(c impl.Chan, h impl.Hand) (seen any) {
	defer func() { seen = recover() }()
	impl.ParkStep(c, h)
	return nil
}

// Promise 19: what gives up within is not seen outside, whatever can't be done.
func TestParkStepLetsNoPanicOut(t *testing.T) {
	chans := []impl.Chan{{}, busyChan(), fullChan(), worded(), worded(1)}
	for _, c := range wrongChans() {
		chans = append(chans, c)
	}
	for _, c := range chans {
		for _, h := range append(parkKinds(), wrongHands()...) {
			if seen := panicOf(c, h); seen != nil {
				t.Fatalf("%+v panics: %v\nchannel %v", h, seen, c)
			}
		}
		for at := int64(-1); at <= impl.AtMark+1; at++ {
			for _, mine := range []int64{-1, 0, 1, 21, impl.MaxWords, impl.MaxWords + 1} {
				if seen := panicOf(c, impl.Hand{At: at, Call: aSend, Mine: mine}); seen != nil {
					t.Fatalf("at %d, mine %d: it panics: %v\nchannel %v", at, mine, seen, c)
				}
			}
		}
	}
}

// What was given up is forgotten: who comes next is answered as ever.
func TestParkStepAfterGivingUp(t *testing.T) {
	c := worded(0, impl.WdCalled, impl.WdStopped)
	for range 3 {
		for word, mine := range []int64{1, 2, 3} {
			checkRefused(t, impl.ParkStep, c, handAt(impl.AtFetch, aSend))
			h := handAt(impl.AtPark, aRecv)
			h.Mine = mine
			checkHeard(t, c, h, int64(word))
		}
	}
}

// A panic of somebody else, who asks for a step while he gives up himself, is left alone.
func TestParkStepLeavesOtherPanics(t *testing.T) {
	const others = "somebody else's"
	asked := false
	defer func() {
		if seen := recover(); seen != others || !asked {
			t.Errorf("it came out as %v; asked: %v", seen, asked)
		}
	}()
	defer func() {
		c, h := busyChan(), handAt(impl.AtPark, aRecv)
		checkWaits(t, impl.ParkStep, c, h)
		checkRefused(t, impl.ParkStep, c, handAt(impl.AtFetch, aSend))
		checkStep(t, impl.ParkStep, c, movedTo(h, impl.AtFetch), c, impl.Resting(impl.RpValue, c.Cells[11].Elem))
		asked = true
	}()
	panic(others)
}
