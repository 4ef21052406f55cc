package tests

import (
	"reflect"
	"slices"
	"testing"

	"loop.example/g00794/impl"
)

// chapter is one of those whose steps there are: from its first place to its last one.
type chapter struct {
	step     stepFunc
	from, to int64
}

func chapters() []chapter {
	return []chapter{
		{impl.SendStep, 1, 8}, {impl.RecvStep, 9, 15}, {impl.GrowStep, 16, 22}, {impl.ParkStep, 23, 25},
	}
}

var bothCalls = []impl.Call{aSend, aRecv}

// askedStep is Step, of which it asks that StaysAt is true just where who is answered waits.
func askedStep(t *testing.T) stepFunc {
	return func(c impl.Chan, h impl.Hand) (impl.Chan, impl.Hand, bool) {
		t.Helper()
		x, y, is := impl.Step(c, h)
		waits := !is && len(x.Cells) > 0
		for range 2 { // and the same again
			if stays := impl.StaysAt(c, h); stays != waits {
				t.Fatalf("%+v stays: %v; it was answered %v\nchannel %v", h, stays, is, c)
			}
		}
		return x, y, is
	}
}

// touches counts what is another one behind a step, and how many words are new.
type touches struct{ cells, counters, words, fresh int }

func touchesOf(c, x impl.Chan) touches {
	n := touches{fresh: len(x.Words) - len(c.Words)}
	for i := range min(len(c.Cells), len(x.Cells)) {
		if x.Cells[i] != c.Cells[i] {
			n.cells++
		}
	}
	for i := range min(len(c.Words), len(x.Words)) {
		if x.Words[i] != c.Words[i] {
			n.words++
		}
	}
	for _, pair := range [][2]int64{{c.Sent, x.Sent}, {c.Got, x.Got}, {c.End, x.End}} {
		if pair[0] != pair[1] {
			n.counters++
		}
	}
	return n
}

// isOne is promise 10. A word is new only for who turns a cell to wait in it.
func (n touches) isOne() bool {
	return n.cells+n.counters+n.words <= 1 && n.fresh >= 0 && n.fresh <= n.cells
}

// putBack is the channel x with that of c which the hand's place may touch.
func putBack(c, x impl.Chan, h impl.Hand) impl.Chan {
	x = cloneChan(x)
	switch h.At {
	case impl.AtSend:
		x.Sent = c.Sent
	case impl.AtRecv:
		x.Got = c.Got
	case impl.AtGrow:
		x.End = c.End
	case impl.AtPut, impl.AtTake:
		if n := len(c.Words); len(x.Words) == n+1 && x.Words[n] == 0 {
			x.Words = x.Words[:n]
		}
		x.Cells[h.Cell] = c.Cells[h.Cell]
	case impl.AtLay, impl.AtDone, impl.AtFinish, impl.AtFail, impl.AtMark:
		x.Cells[h.Cell] = c.Cells[h.Cell]
	case impl.AtPull, impl.AtKeep, impl.AtLose:
		x.Cells[h.Grow] = c.Cells[h.Grow]
	case impl.AtCall, impl.AtWake, impl.AtRaise:
		if h.Waiter > 0 && h.Waiter <= int64(len(c.Words)) {
			x.Words[h.Waiter-1] = c.Words[h.Waiter-1]
		}
	}
	return x
}

// checkOneTouch asks that a step led from one channel to the other by one touch: that of its place.
func checkOneTouch(t *testing.T, c impl.Chan, h impl.Hand, x impl.Chan) touches {
	t.Helper()
	n := touchesOf(c, x)
	if !n.isOne() {
		t.Fatalf("%+v touches %+v\nchannel %v\nnot     %v", h, n, x, c)
	}
	if back := putBack(c, x, h); !sameChan(back, c) {
		t.Fatalf("%+v touches what is not of its place\nchannel %v\nnot     %v", h, x, c)
	}
	return n
}

// checkAsChapter asks for just the answer of the chapter's own step, of one touch, and that StaysAt
// tells whether it waits. It tells whether there was a step, and whether it waits.
func checkAsChapter(t *testing.T, step stepFunc, c impl.Chan, h impl.Hand) (is, waits bool) {
	t.Helper()
	want, hand, told := step(c, h)
	x, y, is := askedStep(t)(c, h)
	if is != told || y != hand || !sameChan(x, want) {
		t.Fatalf("%+v: %+v, %v\nchannel %v\nnot     %+v, %v\nchannel %v", h, y, is, x, hand, told, want)
	}
	if is {
		checkOneTouch(t, c, h, x)
		if !impl.ChanOk(x) || !impl.HandOk(y) {
			t.Fatalf("%+v: %+v\nchannel %v", h, y, x)
		}
	}
	return is, !is && len(x.Cells) > 0
}

// kindsOf counts how many steps there were at a place, how many waited, and how many were refused.
type kindsOf struct{ steps, waits, refused int }

func (k *kindsOf) count(is, waits bool) {
	switch {
	case is:
		k.steps++
	case waits:
		k.waits++
	default:
		k.refused++
	}
}

// stepChans lists right channels: each state in the first cell and in the last one, each word, and
// the counters and the words at their ends and between.
func stepChans() []impl.Chan {
	var list []impl.Chan
	some, _ := stepCases(impl.AtSend, impl.AtRest) // no hands
	for i, c := range append(some, busyChan(), fullChan()) {
		c = cloneChan(c)
		for k := range c.Words {
			c.Words[k] = int64(i+k) % 3
		}
		c.Cap = int64(i) % (impl.MaxCap + 1)
		list = append(list, c)
	}
	return list
}

// stepHands lists right hands at that place, with each Call, with all that they may have seen, and with each Then.
func stepHands(at int64) []impl.Hand {
	var list []impl.Hand
	_, hands := stepCases(at, at, bothCalls...)
	for i, h := range hands {
		h.Then = int64(i) % 3
		list = append(list, h)
		h.Mine, h.Waiter = int64(i)%4, int64(i)%5
		list = append(list, h)
	}
	return list
}

// Each place is answered as the function of its chapter answers, be it a step, or that it waits, or
// that it is refused; promise 10 holds at each one.
func TestStepIsThatOfItsChapter(t *testing.T) {
	waits := []int64{impl.AtView, impl.AtMeet, impl.AtPark}
	chans := stepChans()
	for _, one := range chapters() {
		for at := one.from; at <= one.to; at++ {
			var k kindsOf
			for _, h := range stepHands(at) {
				for _, c := range chans {
					k.count(checkAsChapter(t, one.step, c, h))
				}
			}
			if k.steps < 100 || k.refused < 100 || slices.Contains(waits, at) != (k.waits >= 100) {
				t.Errorf("at %d: %+v", at, k)
			}
		}
	}
}

// endPlace is a step of a chapter's first place, or of its last one.
type endPlace struct {
	c    impl.Chan
	h    impl.Hand
	want impl.Chan
	hand impl.Hand
}

// endPlaces lists one of each, whose channel has still to be given what the step does.
func endPlaces() []endPlace {
	c := busyChan()
	list := []endPlace{
		{h: handAt(1, aSend)}, {h: handAt(8, aSend), hand: impl.Resting(impl.RpOk, 0)},
		{h: handAt(9, aRecv)}, {h: handAt(15, aRecv), hand: impl.Hand{At: 9, Call: aRecv, Begin: 17}},
		{h: handAt(16, aRecv)}, {h: handAt(22, aRecv), hand: movedTo(handAt(22, aRecv), 16)},
		{h: handAt(23, aRecv)}, {h: handAt(25, aSend), hand: impl.Resting(impl.RpStopped, 0)},
	}
	for i := range list {
		list[i].c, list[i].want = c, cloneChan(c)
	}
	list[0].want.Sent, list[0].hand = 26, movedTo(list[0].h, 2)
	list[0].hand.Cell = 25
	list[1].want.Cells[11].State = impl.CsDone
	list[2].want.Got, list[2].hand = 27, movedTo(list[2].h, 10)
	list[2].hand.Cell = 26
	list[3].want.Cells[11].State = impl.CsGoneSend
	list[4].want.End, list[4].hand = 28, movedTo(list[4].h, 17)
	list[4].hand.Grow = 27
	list[5].want.Cells[15].State = impl.CsGoneSend
	list[6].h.Mine = 1 // who was called
	list[6].hand = movedTo(list[6].h, 24)
	list[7].want.Cells[11].State = impl.CsGoneSend
	return list
}

func TestStepAtTheEndsOfEachChapter(t *testing.T) {
	for i, one := range endPlaces() {
		n := touchesOf(one.c, one.want)
		if n.cells+n.counters != 1 && one.h.At != impl.AtPark {
			t.Fatalf("step %d touches %+v", i, n)
		}
		checkStep(t, askedStep(t), one.c, one.h, one.want, one.hand)
	}
}

// waitingHands lists hands which wait where the cells 11 and 15 are as that of who waits there, and
// all words are 0; each with all that it may have seen.
func waitingHands() []impl.Hand {
	var list []impl.Hand
	for _, seen := range statesBut() {
		for _, h := range []impl.Hand{
			handAt(impl.AtView, aRecv), handAt(impl.AtMeet, aRecv), handAt(impl.AtPark, aRecv), handAt(impl.AtPark, aSend),
		} {
			h.Seen = seen
			list = append(list, eachThen(h)...)
		}
	}
	return list
}

// All is as it was where it waits, and nobody is told.
func TestStepWaits(t *testing.T) {
	for number := int64(0); number < impl.MaxCells; number++ {
		for _, waiter := range []int64{0, 1, 16, 20} {
			c := oneWord(20, 16, 0, number%3)
			other := (number + 1) % impl.MaxCells
			for _, h := range waitingHands() {
				h.Cell, h.Grow = number, other
				state := int64(impl.CsGrow)
				if h.At == impl.AtMeet {
					h.Cell, h.Grow, state = other, number, impl.CsCall
				}
				checkWaits(t, askedStep(t), withCell(c, number, impl.Cell{State: state, Elem: 8, Waiter: waiter}), h)
			}
		}
	}
}

// Each word and each hand's Mine, from the first one to the last one: who was told does not wait.
func TestStepWaitsByTheWordOfMine(t *testing.T) {
	for _, words := range []int{1, 20, impl.MaxWords} {
		for mine := int64(1); mine <= int64(words); mine++ {
			for word := int64(0); word <= impl.WdStopped; word++ {
				for other := int64(0); other <= impl.WdStopped; other++ {
					for _, call := range bothCalls {
						h, c := handAt(impl.AtPark, call), oneWord(words, mine, word, other)
						h.Mine = mine
						if is, waits := checkAsChapter(t, impl.ParkStep, c, h); is != (word > 0) || waits != (word == 0) {
							t.Fatalf("mine %d, word %d: %v, %v", mine, word, is, waits)
						}
					}
				}
			}
		}
	}
}

// Neither another cell nor another state makes anybody wait: all cells but one are such as are waited at.
func TestStepWaitsAtNoOtherCell(t *testing.T) {
	for _, state := range statesBut() {
		for _, around := range []int64{impl.CsGrow, impl.CsCall} {
			c := worded(make([]int64, 20)...)
			for i := range c.Cells {
				c.Cells[i].State = around
			}
			h := handAt(impl.AtView, aRecv)
			_, waits := checkAsChapter(t, impl.RecvStep, withCell(c, h.Cell, impl.Cell{State: state}), h)
			if waits != (state == impl.CsGrow) {
				t.Errorf("at AtView, state %d: %v", state, waits)
			}
			h = movedTo(h, impl.AtMeet)
			is, waits := checkAsChapter(t, impl.GrowStep, withCell(c, h.Grow, impl.Cell{State: state}), h)
			if waits != (state == impl.CsCall) || is == waits {
				t.Errorf("at AtMeet, state %d: %v, %v", state, is, waits)
			}
		}
	}
}

// At each other place nobody waits, though all cells be such as are waited at, and nobody be told.
func TestStepWaitsAtNoOtherPlace(t *testing.T) {
	for _, state := range statesBut() {
		c := worded(make([]int64, 20)...)
		for i := range c.Cells {
			c.Cells[i].State = state
		}
		for at := int64(-1); at <= impl.AtMark+1; at++ {
			if at == impl.AtView || at == impl.AtMeet || at == impl.AtPark {
				continue
			}
			for _, h := range append(stepHands(at), handAt(at, impl.Call{})) {
				if impl.StaysAt(c, h) {
					t.Fatalf("%+v waits\nchannel %v", h, c)
				}
				askedStep(t)(c, h)
			}
		}
	}
}

// Who waits goes on as soon as what he waits for is there.
func TestStepGoesOnBehindWaiting(t *testing.T) {
	for _, h := range waitingHands() {
		c := withCell(worded(make([]int64, 20)...), 11, impl.Cell{State: impl.CsGrow, Elem: 8})
		c = withCell(c, 15, impl.Cell{State: impl.CsCall, Elem: 9})
		checkWaits(t, askedStep(t), c, h)
		c.Cells[11].State, c.Cells[15].State, c.Words[15] = impl.CsKept, impl.CsDone, impl.WdStopped
		x, y, is := askedStep(t)(c, h)
		want := map[int64]int64{impl.AtView: impl.AtTake, impl.AtMeet: grown(h).At, impl.AtPark: impl.AtMark}[h.At]
		if !is || y.At != want || !sameChan(x, c) {
			t.Errorf("%+v: %+v, %v\nchannel %v", h, y, is, x)
		}
	}
}

// heldTurns have each step held against its chapter and against promise 10; they count what is
// touched at each place, and who waits there.
type heldTurns struct {
	t     *testing.T
	came  map[int64]map[touches]int
	waits map[int64]int
}

func newHeldTurns(t *testing.T) heldTurns {
	u := heldTurns{t: t, came: map[int64]map[touches]int{}, waits: map[int64]int{}}
	for at := int64(impl.AtSend); at <= impl.AtMark; at++ {
		u.came[at] = map[touches]int{}
	}
	return u
}

// held is Step.
func (u heldTurns) held(c impl.Chan, h impl.Hand) (impl.Chan, impl.Hand, bool) {
	u.t.Helper()
	want, hand, told := placeStep(c, h)
	x, y, is := askedStep(u.t)(c, h)
	if is != told || y != hand || !sameChan(x, want) {
		u.t.Fatalf("%+v: %+v, %v\nchannel %v\nnot     %+v, %v\nchannel %v", h, y, is, x, hand, told, want)
	}
	switch {
	case is:
		u.came[h.At][checkOneTouch(u.t, c, h, x)]++
	case y == h:
		u.waits[h.At]++
	}
	return x, y, is
}

var (
	noTouch   = touches{}
	oneCell   = touches{cells: 1}
	oneCount  = touches{counters: 1}
	oneOfWord = touches{words: 1}
	cellWord  = touches{cells: 1, fresh: 1}
)

// touchesAt tells what a step of each place touches by turns: all of that is come by, and nothing
// else. That a sender is gone is told by himself and by who can't call him: the later one touches nothing.
func touchesAt() map[int64][]touches {
	return map[int64][]touches{
		impl.AtSend: {oneCount}, impl.AtLay: {oneCell}, impl.AtLook: {noTouch}, impl.AtEnd: {noTouch}, impl.AtCome: {noTouch},
		impl.AtPut: {noTouch, oneCell, cellWord}, impl.AtCall: {noTouch, oneOfWord}, impl.AtDone: {oneCell},
		impl.AtRecv: {oneCount}, impl.AtView: {noTouch}, impl.AtSent: {noTouch},
		impl.AtTake: {noTouch, oneCell, cellWord}, impl.AtWake: {noTouch, oneOfWord}, impl.AtFinish: {oneCell}, impl.AtFail: {noTouch, oneCell},
		impl.AtGrow: {noTouch, oneCount}, impl.AtFar: {noTouch}, impl.AtMeet: {noTouch}, impl.AtPull: {noTouch, oneCell},
		impl.AtRaise: {noTouch, oneOfWord}, impl.AtKeep: {oneCell}, impl.AtLose: {noTouch, oneCell},
		impl.AtPark: {noTouch}, impl.AtFetch: {noTouch}, impl.AtMark: {noTouch, oneCell},
	}
}

// checkCame asks that each place was come by, with all that it may touch and nothing else, and that
// somebody waited at each place where one may, and nowhere else.
func (u heldTurns) checkCame() {
	u.t.Helper()
	for at, want := range touchesAt() {
		for _, n := range want {
			if u.came[at][n] == 0 {
				u.t.Errorf("nobody at %d touched %+v: %v", at, n, u.came[at])
			}
		}
		for n := range u.came[at] {
			if !slices.Contains(want, n) {
				u.t.Errorf("at %d: %+v", at, n)
			}
		}
	}
	if u.waits[impl.AtView] == 0 || u.waits[impl.AtMeet] == 0 || u.waits[impl.AtPark] == 0 || len(u.waits) != 3 {
		u.t.Errorf("they waited at %v", u.waits)
	}
}

// Promise 10: senders and receivers by turns, in every order, whoever is stopped, and whenever.
func TestStepsInAnyOrder(t *testing.T) {
	u := newHeldTurns(t)
	for _, one := range []struct {
		cap, most int64
		came      int
		elems     []int64
	}{
		{0, 3, 0, []int64{7, 0}}, {1, 3, 0, []int64{7, 0}}, {2, 3, 0, []int64{7, 0}},
		{0, 3, 0, []int64{7, 8, 0}}, {0, 3, 0, []int64{7, 0, 0}}, {1, 3, 0, []int64{7, 0, 0}},
		{1, 4, 2, []int64{7, 8, 0, 0}}, {1, 4, 1, []int64{7, 8, 0}}, {1, 4, 3, []int64{7, 8, 9, 0}},
	} {
		c, hands := cameAlone(t, one.cap, one.elems, one.came)
		whole := restTurns(t, one.most, one.elems)
		whole.step = u.held
		whole.inAnyOrder(c, hands)
		if whole.ends < 2 {
			t.Errorf("%+v: only %d ends", one, whole.ends)
		}
	}
	u.checkCame()
}

// dice gives numbers that look thrown, and are the same each time.
type dice uint64

func (d *dice) under(most int) int {
	*d = *d*6364136223846793005 + 1442695040888963407
	return int(*d >> 33 % dice(most))
}

// crowd is one channel and who is at it, all of whom begin again when they are at rest.
type crowd struct {
	c         impl.Chan
	hands     []impl.Hand
	sent, got []int64
	over      bool
}

// goesOn makes one step of who is at it, and tells whether there was one.
func (w *crowd) goesOn(t *testing.T, step stepFunc, who int) bool {
	t.Helper()
	before := w.hands[who]
	x, y, is := step(w.c, before)
	if !is {
		if y != before {
			t.Fatalf("no step of %+v\nchannel %v", before, w.c)
		}
		return false
	}
	w.c, w.hands[who] = x, y
	if y.At == impl.AtRest {
		switch y.Reply {
		case impl.RpOk:
			w.sent = append(w.sent, before.Call.Elem)
		case impl.RpValue:
			w.got = append(w.got, y.Out)
		case impl.RpOver:
			w.over = true
		}
	}
	return true
}

// settles goes on till all are at rest, or nobody can go on.
func (w *crowd) settles(t *testing.T, step stepFunc) {
	t.Helper()
	for went := true; went; {
		went = false
		for who, h := range w.hands {
			went = h.At != impl.AtRest && w.goesOn(t, step, who) || went
		}
	}
}

// playedCrowd has so many turns thrown: of 6 tasks one is asked, or goes on, or is stopped.
func playedCrowd(t *testing.T, u heldTurns, cap int64, seed, turns int) *crowd {
	t.Helper()
	w, d := &crowd{c: impl.NewChan(cap), hands: make([]impl.Hand, 6)}, dice(seed)
	for n := range turns {
		who := d.under(len(w.hands))
		switch h := w.hands[who]; {
		case h.At == impl.AtRest:
			call := impl.Call{Code: impl.OpSend, Elem: int64(n) + 1}
			if d.under(seed%3+2) == 0 {
				call = aRecv
			}
			w.hands[who], _ = impl.Called(h, call)
		case h.At == impl.AtPark && d.under(6) == 0:
			w.c, _ = impl.Told(w.c, h.Mine, impl.WdStopped)
		default:
			w.goesOn(t, u.held, who)
		}
	}
	w.settles(t, u.held)
	return w
}

// checkSettled asks that all wait to be called or are at rest, and that what was sent was received or is kept, each once.
func (w *crowd) checkSettled(t *testing.T, seed int) {
	t.Helper()
	for _, h := range w.hands {
		if h.At != impl.AtRest && (h.At != impl.AtPark || !impl.StaysAt(w.c, h)) {
			t.Fatalf("seed %d: %+v can't go on\nchannel %v", seed, h, w.c)
		}
	}
	if w.over { // where who is told so has left his number
		return
	}
	checkLetIn(t, w.c, w.hands)
	slices.Sort(w.sent)
	all := append(slices.Clone(w.got), impl.KeptIn(w.c)...)
	slices.Sort(all)
	if !slices.Equal(w.sent, all) {
		t.Fatalf("seed %d: %v were sent, %v received or kept\nchannel %v", seed, w.sent, all, w.c)
	}
}

// Promise 10: six who come again and again, each with his turn as it is thrown, till there are no more cells.
func TestStepsAsTheyAreThrown(t *testing.T) {
	u := newHeldTurns(t)
	over := 0
	for seed := range 300 {
		w := playedCrowd(t, u, int64(seed%5), seed, 100+seed%4*100)
		w.checkSettled(t, seed)
		if w.over {
			over++
		}
	}
	if over < 10 || over > 290 {
		t.Errorf("%d of them had no more cells", over)
	}
	for _, at := range []int64{impl.AtSend, impl.AtRecv} { // who finds no more cells
		delete(u.came[at], noTouch)
	}
	u.checkCame()
}

// The words of others stay where a word is new, and a cell's Elem where it is turned; the new word is 0.
func TestStepHasANewWord(t *testing.T) {
	for _, words := range []int{0, 1, 20, impl.MaxWords - 1} {
		for word := int64(0); word <= impl.WdStopped; word++ {
			for number := int64(0); number < impl.MaxCells; number++ {
				c := withCell(worded(slices.Repeat([]int64{word}, words)...), number, impl.Cell{Elem: 8})
				send, recv := putHand(impl.CsNone, number, 0, 0), takeHand(impl.CsNone, number, 0)
				for state, h := range map[int64]impl.Hand{impl.CsSend: send, impl.CsRecv: recv} {
					x, y, is := askedStep(t)(c, h)
					mine := int64(words) + 1
					want := withWord(withCell(c, number, impl.Cell{State: state, Elem: 8, Waiter: mine}))
					if n := touchesOf(c, x); !is || !sameChan(x, want) || y.Mine != mine || n != cellWord {
						t.Fatalf("%d words, cell %d: %+v, %v\nchannel %v", words, number, y, is, x)
					}
				}
			}
		}
	}
}

// Where there is no word to be had nothing is touched.
func TestStepWithoutANewWord(t *testing.T) {
	for _, h := range []impl.Hand{putHand(impl.CsNone, 11, 0, 0), takeHand(impl.CsNone, 11, 0)} {
		c := withCell(fullChan(), 11, impl.Cell{Elem: 8})
		checkStep(t, askedStep(t), c, h, c, impl.Resting(impl.RpOver, 0))
	}
}

func TestStepOfWrongChans(t *testing.T) {
	for _, call := range bothCalls {
		checkWrongChans(t, askedStep(t), call)
	}
	checkWrongChans(t, askedStep(t), impl.Call{})
}

// What is not right goes ahead of who waits: it is refused, and does not stay.
func TestStepWaitsInNoWrongChan(t *testing.T) {
	wrongs := []func(c *impl.Chan){
		func(c *impl.Chan) { c.Cap = impl.MaxCap + 1 }, func(c *impl.Chan) { c.Sent = -1 },
		func(c *impl.Chan) { c.Got = impl.MaxCells + 1 }, func(c *impl.Chan) { c.End = -1 },
		func(c *impl.Chan) { c.Cells = c.Cells[:impl.MaxCells-1] }, func(c *impl.Chan) { c.Cells[11].Waiter = 21 },
		func(c *impl.Chan) { c.Cells = append(c.Cells, impl.Cell{}) }, func(c *impl.Chan) { c.Cells[15].Waiter = -1 },
		func(c *impl.Chan) { c.Cells[3].State = statesInAll }, func(c *impl.Chan) { c.Cells[39].Elem = impl.MaxElem + 1 },
		func(c *impl.Chan) { c.Words[19] = 3 }, func(c *impl.Chan) { c.Words[0] = -1 },
		func(c *impl.Chan) { c.Words = slices.Repeat(c.Words, 5) },
	}
	c := withCell(worded(make([]int64, 20)...), 11, impl.Cell{State: impl.CsGrow})
	c = withCell(c, 15, impl.Cell{State: impl.CsCall})
	for _, h := range waitingHands() {
		checkWaits(t, askedStep(t), c, h)
		for _, wrong := range wrongs {
			x := cloneChan(c)
			wrong(&x)
			checkRefused(t, askedStep(t), x, h)
		}
		for _, p := range handParts()[1:] {
			for _, n := range p.past() {
				stray := h
				p.put(&stray, n)
				checkRefused(t, askedStep(t), c, stray)
			}
		}
		for _, call := range append(wrongCalls(), impl.Call{}) {
			h.Call = call
			checkRefused(t, askedStep(t), c, h)
		}
	}
}

func TestStepOfWrongHands(t *testing.T) {
	c := withCell(busyChan(), 11, impl.Cell{State: impl.CsIn})
	for _, call := range bothCalls {
		checkWrongHands(t, askedStep(t), c, impl.AtSend, impl.AtMark, call)
	}
}

// Who rests is refused, whatever else he has in hand, and so is who is at none of any table.
func TestStepAtNoPlace(t *testing.T) {
	chans := []impl.Chan{busyChan(), fullChan(), worded(make([]int64, 20)...), impl.NewChan(0), impl.NewChan(4)}
	for _, c := range chans {
		for _, h := range restHands() {
			checkRefused(t, askedStep(t), c, h)
		}
		for _, at := range append(oddNumbers(), -25, -10, 27, 28, 34, 50, 100, 256, 1<<32+10, 1<<32+18, 1<<32+23) {
			if at >= impl.AtSend && at <= impl.AtMark {
				continue
			}
			for _, call := range append(bothCalls, impl.Call{}) {
				if at == impl.AtRest && call == (impl.Call{}) {
					continue
				}
				for _, h := range []impl.Hand{handAt(at, call), {At: at, Call: call}, {At: at, Call: call, Mine: 1}} {
					checkRefused(t, askedStep(t), c, h)
				}
			}
		}
	}
}

// Of another Call each place is refused but AtPark and AtMark, which are of both.
func TestStepOfAnotherCall(t *testing.T) {
	for at := int64(impl.AtSend); at <= impl.AtFetch; at++ {
		call := aSend
		if at <= impl.AtDone {
			call = aRecv
		}
		if at == impl.AtPark {
			continue
		}
		for _, state := range statesBut() {
			for _, seen := range statesBut() {
				for mine := int64(1); mine <= 3; mine++ {
					h := handAt(at, call)
					h.Seen, h.Mine = seen, mine
					c := withCell(withCell(worded(0, 1, 2), 11, impl.Cell{State: state}), 15, impl.Cell{State: state})
					checkRefused(t, askedStep(t), c, h)
				}
			}
		}
	}
}

// What each chapter does not tell of is refused: what stands there, what was seen, and who has no word.
func TestStepOfWhatIsNotTold(t *testing.T) {
	told := map[int64][]int64{impl.AtLook: {0, 1, 4, 8, 10}, impl.AtView: {0, 1, 2, 3, 6, 9}}
	for at, states := range told {
		for _, state := range statesBut(states...) {
			c := withCell(withCell(busyChan(), 11, impl.Cell{State: state}), 15, impl.Cell{State: impl.CsCall})
			checkRefused(t, askedStep(t), c, handAt(at, callAt(at)))
		}
	}
	saw := map[int64][]int64{impl.AtPut: {0, 1}, impl.AtTake: {0, 1, 2, 3}, impl.AtPull: {0, 3}}
	for at, states := range saw {
		for _, seen := range statesBut(states...) {
			for _, state := range statesBut() {
				h := handAt(at, callAt(at))
				h.Seen = seen
				checkRefused(t, askedStep(t), withCell(withCell(busyChan(), 11, impl.Cell{State: state}), 15, impl.Cell{State: state}), h)
			}
		}
	}
	for at := int64(impl.AtPark); at <= impl.AtMark; at++ {
		for _, call := range bothCalls {
			for _, mine := range []int64{0, 21, impl.MaxWords} {
				h := handAt(at, call)
				h.Mine = mine
				checkRefused(t, askedStep(t), worded(make([]int64, 20)...), h)
			}
		}
	}
}

// callAt is a Call of who can be at that place.
func callAt(at int64) impl.Call {
	if at <= impl.AtDone {
		return aSend
	}
	return aRecv
}

func TestStepOfOddNumbers(t *testing.T) {
	in := func(n, least, most int64) bool { return n >= least && n <= most }
	for _, n := range append(oddNumbers(), -2, 3, 4, 5, 6, 7, 10, 11, 12, 13, 14, 17, 18, 19, 20, 21, 22, 23, 24, 27) {
		for _, m := range oddNumbers() {
			h := handAt(n, impl.Call{Code: m})
			h.Cell, h.Mine = 1, 1 // where a cell of the buffer is, and who was called
			if n == impl.AtPull {
				h.Seen = impl.CsSend
			}
			both := n == impl.AtPark || n == impl.AtMark
			want := m == 1 && (in(n, 1, 8) || both) || m == 2 && in(n, 9, 25)
			if _, _, is := askedStep(t)(busyChan(), h); is != want {
				t.Fatalf("at %d, code %d: %v", n, m, is)
			}
			h = handAt(impl.AtView, aRecv)
			h.Cell, h.Begin = n, m
			c := withCell(busyChan(), min(max(n, 0), 39), impl.Cell{State: impl.CsGrow})
			if stays := impl.StaysAt(c, h); stays != (in(n, 0, 39) && in(m, 0, 20000)) {
				t.Fatalf("cell %d, begin %d: %v", n, m, stays)
			}
			h = handAt(impl.AtPark, impl.Call{Code: impl.OpSend, Elem: m})
			h.Mine = n
			if stays := impl.StaysAt(worded(make([]int64, 40)...), h); stays != (in(n, 1, 40) && in(m, 0, 999)) {
				t.Fatalf("mine %d, elem %d: %v", n, m, stays)
			}
		}
	}
}

// Only just as many cells, and not more than as many words, have a step, or wait.
func TestStepOfListLengths(t *testing.T) {
	for words := range 100 {
		for cells := range 60 {
			c := impl.Chan{Cells: make([]impl.Cell, cells), Words: make([]int64, words)}
			right := cells == 40 && words <= 80
			for at := int64(impl.AtSend); at <= impl.AtMark; at++ {
				_, _, is := askedStep(t)(c, impl.Hand{At: at, Call: callAt(at), Mine: 1})
				if is != (right && (at < impl.AtPark || at > impl.AtPark && words > 0)) {
					t.Fatalf("%d cells, %d words, at %d: %v", cells, words, at, is)
				}
			}
			if stays := impl.StaysAt(c, impl.Hand{At: impl.AtPark, Call: aSend, Mine: 1}); stays != (right && words > 0) {
				t.Fatalf("%d cells, %d words: %v", cells, words, stays)
			}
		}
	}
}

// allKinds lists one hand of each kind of step of each chapter, those who wait and those who are refused.
func allKinds() []impl.Hand {
	list := slices.Concat(manyHands(), growKinds(), parkKinds(), waitingHands()[:12])
	for at := int64(impl.AtSend); at <= impl.AtDone; at++ {
		h := handAt(at, aSend)
		told := h
		told.Waiter = 2
		list = append(list, h, told)
	}
	list = append(list, putHand(impl.CsNone, 11, 0, 0), putHand(impl.CsNone, 11, 12, 0), putHand(impl.CsIn, 11, 0, 0))
	return append(list, impl.Hand{}, handAt(impl.AtView, aSend), impl.Hand{At: impl.AtMark + 1, Call: aRecv})
}

// Promise 19: answers are new memory, that of who waits too.
func TestStepsAreNewMemory(t *testing.T) {
	for _, c := range []impl.Chan{busyChan(), fullChan(), worded(0, 1, 2, 0)} {
		for _, own := range []impl.Cell{{}, fitCell, {State: impl.CsGrow}} {
			checkNewMemory(t, askedStep(t), withCell(c, 11, own), allKinds())
		}
	}
}

// Promise 19: arguments stay, and the room behind them too, for both functions.
func TestStepsLeaveTheirArguments(t *testing.T) {
	for _, own := range []impl.Cell{{}, {State: impl.CsIn}, {State: impl.CsSend}, {State: impl.CsGrow}} {
		checkArgumentsStay(t, askedStep(t), own, allKinds())
	}
	c := busyChan()
	before := cloneChan(c)
	for at := int64(-1); at <= impl.AtMark+1; at++ {
		for _, h := range stepHands(at) {
			was := h
			impl.StaysAt(c, h)
			if h != was || !reflect.DeepEqual(c, before) {
				t.Fatalf("%+v: it wrote to its argument: %v", was, c)
			}
		}
	}
}

// Promise 19: nothing panics, whatever is not right on both sides.
func TestStepAnswersAtEveryArgument(t *testing.T) {
	hands := slices.Concat(wrongHands(), allKinds(), restHands(), workHands())
	for _, c := range wrongChans() {
		for _, h := range hands {
			if x, y, is := askedStep(t)(c, h); is || y != (impl.Hand{}) || !sameChan(x, impl.Chan{}) {
				t.Fatalf("%+v is not refused: %+v, %v\nchannel %v", h, y, is, c)
			}
		}
	}
	for _, c := range []impl.Chan{busyChan(), fullChan(), impl.NewChan(0), impl.NewChan(4)} {
		for _, h := range hands {
			x, y, is := askedStep(t)(c, h)
			switch {
			case is:
				checkOneTouch(t, c, h, x)
			case y == h && impl.HandOk(h):
			case y != (impl.Hand{}) || !sameChan(x, impl.Chan{}):
				t.Fatalf("%+v: %+v\nchannel %v", h, y, x)
			}
		}
	}
}
