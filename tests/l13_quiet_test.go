package tests

import (
	"fmt"
	"math"
	"reflect"
	"slices"
	"testing"

	"loop.example/g00794/impl"
)

// quietBy tells of a right world whether all are at rest, or parked and told nothing yet, by what
// stands there alone.
func quietBy(w impl.World) bool {
	for who, h := range w.Hands {
		if h.At != 0 && !waitsIn(w, int64(who)) {
			return false
		}
	}
	return true
}

// parkedWith counts who is at AtPark with that code.
func parkedWith(w impl.World, code int64) int {
	n := 0
	for _, h := range w.Hands {
		if h.At == 23 && h.Call.Code == code {
			n++
		}
	}
	return n
}

// fairBy tells whether it is fair, too.
func fairBy(w impl.World) bool {
	kept := int64(0)
	for _, cell := range w.Chan.Cells {
		if cell.State == 2 {
			kept++
		}
	}
	switch {
	case !quietBy(w) || kept > w.Chan.Cap:
		return false
	case parkedWith(w, impl.OpRecv) > 0:
		return kept == 0 && parkedWith(w, impl.OpSend) == 0
	case parkedWith(w, impl.OpSend) > 0:
		return kept == w.Chan.Cap
	}
	return true
}

// checkQuietIs asks for just those answers, and that the argument stays.
func checkQuietIs(t *testing.T, w impl.World, quiet, fair bool) {
	t.Helper()
	before := cloneWorld(w)
	for range 2 { // and the same again
		if a, b := impl.QuietIn(w), impl.FairIn(w); a != quiet || b != fair {
			t.Fatalf("quiet %v, fair %v, not %v, %v\nworld %+v", a, b, quiet, fair, w)
		}
	}
	if !sameWorld(w, before) {
		t.Fatalf("it wrote to its argument\nworld %+v\nof    %+v", w, before)
	}
}

// checkQuiet asks for those of a right world.
func checkQuiet(t *testing.T, w impl.World) {
	t.Helper()
	checkQuietIs(t, w, quietBy(w), fairBy(w))
}

// anyGoesOn tells whether anybody has a step.
func anyGoesOn(w impl.World) bool {
	for who := range int64(len(w.Hands)) {
		if _, is := impl.Stepped(w, who); is {
			return true
		}
	}
	return false
}

// isOver tells whether anybody was answered RpOver.
func isOver(w impl.World) bool {
	return slices.ContainsFunc(w.Deals, func(d impl.Deal) bool { return d.Reply == impl.RpOver })
}

// checkSettlesQuiet asks of a played world that it is quiet just where nobody can go on, and quiet
// and fair once all have gone on as far as they can, if nobody was answered RpOver by then.
func checkSettlesQuiet(t *testing.T, w impl.World) impl.World {
	t.Helper()
	checkQuiet(t, w)
	if goes := anyGoesOn(w); goes == impl.QuietIn(w) {
		t.Fatalf("somebody goes on: %v, quiet: %v\nworld %+v", goes, !goes, w)
	}
	x, rounds := impl.Settled(w, impl.MaxNow)
	if rounds == 0 != impl.QuietIn(w) {
		t.Fatalf("%d rounds\nworld %+v", rounds, w)
	}
	settled := []impl.World{x}
	if isOver(x) {
		// Two who go on step by step may send each other on up to the last cell; where one of them
		// goes first they need not.
		settled = settledFrom(t, w)
	}
	for _, y := range settled {
		if isOver(y) {
			checkQuiet(t, y)
			continue
		}
		checkQuietIs(t, y, true, true)
	}
	return x
}

// keptNumbers are those of so many cells, which are not side by side.
func keptNumbers(kept int64) []int64 {
	var list []int64
	for i := range kept {
		list = append(list, (i*7+5)%impl.MaxCells)
	}
	return list
}

// lullWorld has so many cells that are kept, all others of that State, and tasks that are at rest (0),
// or parked with that code.
func lullWorld(cap, kept, others int64, codes ...int64) impl.World {
	c := worded(make([]int64, impl.MaxTasks)...)
	c.Cap = cap
	for i := range c.Cells {
		c.Cells[i].State = others
	}
	for i, number := range keptNumbers(kept) {
		c.Cells[number] = impl.Cell{State: impl.CsKept, Elem: int64(i)} // the first one is 0
	}
	w := impl.World{Chan: c, Hands: make([]impl.Hand, len(codes)), Deals: someDeals(5, len(codes), 17), Now: 17}
	for who, code := range codes {
		if code == 0 {
			continue
		}
		w.Hands[who] = handAt(impl.AtPark, impl.Call{Code: code, Elem: (2 - code) * int64(who)})
		w.Hands[who].Mine = int64(who) + 1
	}
	return w
}

// eachCodes lists what so many tasks may be at: at rest, or parked to send or to receive.
func eachCodes(tasks int) [][]int64 {
	if tasks == 0 {
		return [][]int64{nil}
	}
	var list [][]int64
	for _, codes := range eachCodes(tasks - 1) {
		for code := range int64(3) {
			list = append(list, append(slices.Clone(codes), code))
		}
	}
	return list
}

// Promise 13: a new world is quiet, and fair.
func TestQuietOfNewWorlds(t *testing.T) {
	for cap := int64(0); cap <= impl.MaxCap; cap++ {
		for tasks := int64(1); tasks <= impl.MaxTasks; tasks++ {
			w, _ := impl.NewWorld(cap, tasks)
			checkQuietIs(t, w, true, true)
			checkSettlesQuiet(t, w)
		}
	}
}

// Just at AtRest one may stay, and at AtPark while he waits, whoever he is and whatever the others do.
func TestQuietAtEachPlace(t *testing.T) {
	for at := int64(impl.AtRest); at <= impl.AtMark; at++ {
		for _, call := range bothCalls {
			h := handAt(at, call)
			if at == impl.AtRest {
				h.Call = impl.Call{}
			}
			for word := int64(0); word <= impl.WdStopped; word++ {
				for who := range 5 {
					for _, code := range []int64{0, impl.OpSend, impl.OpRecv} {
						w := withHand(lullWorld(0, 0, impl.CsDone, slices.Repeat([]int64{code}, 5)...), who, h)
						w.Chan.Words = append(w.Chan.Words, make([]int64, 10)...)
						w.Chan.Words[15] = word
						quiet := at == 0 || at == 23 && word == 0
						both := at == 23 && code > 0 && code != call.Code
						checkQuiet(t, w)
						checkQuietIs(t, w, quiet, quiet && !both)
					}
				}
			}
		}
	}
}

// Who waits for another one, and is not parked, is at work; so is who has no step for another reason.
func TestQuietWhereNobodyHasAStep(t *testing.T) {
	for _, h := range []impl.Hand{
		handAt(impl.AtView, aRecv), handAt(impl.AtMeet, aRecv), // who wait
		handAt(impl.AtSend, aRecv), handAt(impl.AtRecv, aSend), handAt(impl.AtFetch, aSend), handAt(impl.AtPull, aRecv),
		putHand(impl.CsDone, 11, 0, 0), takeHand(impl.CsDone, 11, 0), handAt(impl.AtLook, aSend),
		{At: impl.AtPark, Call: aSend}, {At: impl.AtPark, Call: aRecv}, {At: impl.AtMark, Call: aSend}, // who have no word
	} {
		for who := range 5 {
			w := busyWorld()
			clear(w.Hands)
			w.Hands[who] = h
			if anyGoesOn(w) {
				t.Fatalf("%+v goes on", h)
			}
			checkQuietIs(t, w, false, false)
		}
	}
	for _, one := range []struct {
		deals int
		now   int64
	}{{9, impl.MaxNow}, {impl.MaxDeals, impl.MaxNow}, {impl.MaxDeals, impl.MaxNow - 1}, {impl.MaxDeals, 33}} {
		w := lateWorld(one.deals, one.now) // no turn is left, or no room for a Deal
		clear(w.Hands)
		w.Hands[3] = handAt(impl.AtDone, aSend)
		if anyGoesOn(w) {
			t.Fatalf("%+v goes on", w.Hands[3])
		}
		checkQuietIs(t, w, false, false)
	}
}

// It is the word of Mine, of all words, whatever the others have heard.
func TestQuietByTheWordOfMine(t *testing.T) {
	for _, words := range []int{1, 2, 20, impl.MaxWords - 1, impl.MaxWords} {
		for mine := int64(1); mine <= int64(words); mine++ {
			for word := int64(0); word <= impl.WdStopped; word++ {
				for other := int64(0); other <= impl.WdStopped; other++ {
					for i, call := range parkCalls() {
						h := handAt(impl.AtPark, call)
						h.Mine = mine
						w := parkWorld(oneWord(words, mine, word, other), h, i, 4)
						checkQuiet(t, w)
						if is := impl.QuietIn(w); is != (word == 0) {
							t.Fatalf("word %d of %d is %d: %v", mine, words, word, is)
						}
					}
				}
			}
		}
	}
}

// Who is AtPark and has no word at all can't stay there: the world is right, and not quiet.
func TestQuietWithoutAWord(t *testing.T) {
	for _, words := range []int{0, 1, 20, impl.MaxWords - 1, impl.MaxWords} {
		for _, mine := range []int64{0, int64(words) + 1, impl.MaxWords} {
			if mine > impl.MaxWords || mine > 0 && mine <= int64(words) {
				continue
			}
			for i, call := range parkCalls() {
				h := handAt(impl.AtPark, call)
				h.Mine = mine
				w := parkWorld(worded(make([]int64, words)...), h, i, 6)
				if !impl.WorldOk(w) {
					t.Fatalf("%d words, mine %d: it is refused", words, mine)
				}
				checkQuietIs(t, w, false, false)
			}
		}
	}
}

// Of all who are parked each set was called or stopped already: none of them may be.
func TestQuietWhereSomeWereTold(t *testing.T) {
	for tasks := 1; tasks <= impl.MaxTasks; tasks++ {
		for code := int64(impl.OpSend); code <= impl.OpRecv; code++ {
			for set := range 1 << tasks {
				for word := int64(impl.WdCalled); word <= impl.WdStopped; word++ {
					w := lullWorld(0, 0, impl.CsNone, slices.Repeat([]int64{code}, tasks)...)
					for who := range tasks {
						if set>>who&1 == 1 {
							w.Chan.Words[who] = word
							word = 3 - word // called and stopped ones side by side
						}
					}
					checkQuietIs(t, w, set == 0, set == 0)
				}
			}
		}
	}
}

// Whatever the hands have besides, and what the cells and the counters are, is not asked.
func TestQuietAsksNothingElse(t *testing.T) {
	for _, h := range restHands() {
		for who := range 3 {
			w := withHand(lullWorld(2, 2, impl.CsDone, impl.OpSend, impl.OpSend, impl.OpSend), who, h)
			w.Now = max(w.Now, h.Begin)
			checkQuietIs(t, w, true, true)
		}
	}
	for _, part := range handParts()[1:] {
		for _, n := range []int64{0, 1, part.most - 1, part.most} {
			w := lullWorld(3, 3, impl.CsCall, 0, impl.OpSend)
			part.put(&w.Hands[1], n)
			w.Now = impl.MaxNow
			if part.name == "Mine" {
				w.Chan.Words = make([]int64, impl.MaxWords)
				part.put(&w.Hands[1], max(n, 1))
			}
			checkQuietIs(t, w, true, true)
		}
	}
	for _, n := range []int64{0, 1, impl.MaxCells - 1, impl.MaxCells} {
		for _, put := range []func(c *impl.Chan){
			func(c *impl.Chan) { c.Sent = n }, func(c *impl.Chan) { c.Got = n }, func(c *impl.Chan) { c.End = n },
		} {
			w := lullWorld(3, 3, impl.CsGrow, 0, impl.OpSend)
			put(&w.Chan)
			checkQuietIs(t, w, true, true)
			put(&w.Chan)
			w.Chan.Cap = impl.MaxCap
			checkQuietIs(t, w, true, false)
		}
	}
}

// Neither a turn nor room for a Deal need be left.
func TestQuietAtEachNow(t *testing.T) {
	for _, deals := range []int{0, 9, impl.MaxDeals - 1, impl.MaxDeals} {
		for _, now := range []int64{17, 33, impl.MaxNow - 1, impl.MaxNow} {
			for kept := range int64(4) {
				w := lullWorld(2, kept, impl.CsDone, 0, impl.OpSend, impl.OpSend)
				w.Deals, w.Now = someDeals(deals, 3, now), now
				checkQuietIs(t, w, true, kept == 2)
				w.Hands[1], w.Hands[2] = impl.Hand{}, impl.Hand{}
				checkQuietIs(t, w, true, kept <= 2)
				w.Hands[0] = handAt(impl.AtPut, aSend)
				checkQuietIs(t, w, false, false)
			}
		}
	}
}

// What is fair, told out one by one.
func TestFairOneByOne(t *testing.T) {
	const s, r = impl.OpSend, impl.OpRecv
	for i, one := range []struct {
		cap, kept int64
		codes     []int64
		fair      bool
	}{
		{0, 0, []int64{0}, true}, {0, 1, []int64{0}, false}, {0, 0, []int64{s}, true}, {0, 1, []int64{s}, false},
		{0, 0, []int64{r}, true}, {0, 1, []int64{r}, false}, {0, 0, []int64{s, r}, false}, {0, 0, []int64{r, s}, false},
		{1, 0, []int64{0, 0}, true}, {1, 1, []int64{0, 0}, true}, {1, 2, []int64{0, 0}, false},
		{1, 0, []int64{0, s}, false}, {1, 1, []int64{0, s}, true}, {1, 2, []int64{0, s}, false},
		{1, 0, []int64{0, r}, true}, {1, 1, []int64{0, r}, false}, {1, 2, []int64{r, 0}, false},
		{1, 0, []int64{s, r}, false}, {1, 1, []int64{s, r}, false}, {2, 1, []int64{s, s, s}, false},
		{4, 3, []int64{s, 0, 0, 0, 0, 0}, false}, {4, 4, []int64{0, 0, 0, 0, 0, s}, true}, {4, 5, []int64{s, s, s, s, s, s}, false},
		{4, 0, []int64{r, r, r, r, r, r}, true}, {4, 1, []int64{0, 0, 0, 0, 0, r}, false}, {4, 0, []int64{r, r, r, r, r, s}, false},
		{4, 4, []int64{s, s, s, s, s, r}, false}, {4, 4, []int64{0, 0, 0, 0, 0, 0}, true}, {4, 5, []int64{0, 0, 0, 0, 0, 0}, false},
	} {
		for _, others := range statesBut(impl.CsKept) {
			w := lullWorld(one.cap, one.kept, others, one.codes...)
			if !impl.WorldOk(w) {
				t.Fatalf("%d: it is refused", i)
			}
			checkQuietIs(t, w, true, one.fair)
		}
	}
}

// Of each cap each number of cells that are kept, less, as many and more; nobody is parked, one, some
// and all, to send, to receive, and to do both.
func TestFairOfEachNumberKept(t *testing.T) {
	for cap := int64(0); cap <= impl.MaxCap; cap++ {
		for _, kept := range []int64{0, 1, 2, 3, 4, 5, 6, 7, impl.MaxCells - 1, impl.MaxCells} {
			for tasks := 1; tasks <= 4; tasks++ {
				for i, codes := range eachCodes(tasks) {
					others := statesBut(impl.CsKept)[i%10]
					w := lullWorld(cap, kept, others, codes...)
					sends, receives := slices.Contains(codes, 1), slices.Contains(codes, 2)
					fair := kept <= cap && (!sends || kept == cap) && (!receives || kept == 0 && !sends)
					checkQuietIs(t, w, true, fair)
				}
			}
		}
	}
}

// It is just the cells that are kept that count, be their Elem 0 or not, and wherever they are.
func TestFairCountsWhatIsKept(t *testing.T) {
	for cap := int64(1); cap <= impl.MaxCap; cap++ {
		for _, others := range statesBut(impl.CsKept) {
			for shift := range int64(impl.MaxCells) {
				w := lullWorld(cap, 0, others, 0, impl.OpSend)
				for n := range cap {
					checkQuietIs(t, w, true, false)
					w.Chan.Cells[(shift+n*n)%impl.MaxCells] = impl.Cell{State: impl.CsKept, Elem: n % 2 * impl.MaxElem}
				}
				checkQuietIs(t, w, true, true)
			}
		}
	}
}

// One who is at work, or was told, makes it unfair too, whatever is kept and whoever else is parked.
func TestFairOnlyWhereQuiet(t *testing.T) {
	for cap := int64(0); cap <= impl.MaxCap; cap++ {
		for kept := range int64(6) {
			for i, codes := range eachCodes(3) {
				for word := int64(0); word <= impl.WdStopped; word++ {
					w := lullWorld(cap, kept, impl.CsDone, append(codes, impl.OpSend)...)
					w.Hands[3].At = int64(i)%22 + 1 // from AtSend to AtLose
					w.Chan.Words[3] = word
					checkQuietIs(t, w, false, false)
					if word > 0 {
						w.Hands[3].At = impl.AtPark
						checkQuietIs(t, w, false, false)
					}
				}
			}
		}
	}
}

// checkTurns has a task asked, and go on alone: at each turn but the last one it is not quiet.
func checkTurns(t *testing.T, w impl.World, who int64, c impl.Call) impl.World {
	t.Helper()
	x, k := impl.Asked(w, who, c)
	if k != impl.CdOk {
		t.Fatalf("task %d is not asked: %d\nworld %+v", who, k, w)
	}
	worlds := aloneOf(x, who)
	for _, y := range worlds[:len(worlds)-1] {
		checkQuietIs(t, y, false, false)
	}
	return worlds[len(worlds)-1]
}

// checkKept asks that just those are kept.
func checkKept(t *testing.T, w impl.World, want ...int64) {
	t.Helper()
	if kept := impl.KeptIn(w.Chan); !slices.Equal(kept, want) {
		t.Fatalf("%v are kept, not %v\nworld %+v", kept, want, w)
	}
}

// Promise 13: who sends alone leaves it while there is room, and is parked then; who receives then takes
// what is kept, first in first out, and lets in who waits, till nothing is left and he is parked.
func TestWhoSendsAndThenReceives(t *testing.T) {
	for cap := int64(0); cap <= impl.MaxCap; cap++ {
		for senders := int64(0); senders < impl.MaxTasks; senders++ {
			w, _ := impl.NewWorld(cap, impl.MaxTasks)
			var line []int64
			for n := range cap {
				w = checkTurns(t, w, n%5, callOf(100+n))
				line = append(line, 100+n)
				checkQuietIs(t, w, true, true)
				checkKept(t, w, line...)
				checkParkedAre(t, w)
			}
			var parked []int64
			for who := range senders {
				w = checkTurns(t, w, who, callOf(11+who))
				parked = append(parked, who)
				checkQuietIs(t, w, true, true)
				checkKept(t, w, line...)
				checkParkedAre(t, w, parked...)
			}
			checkReceivesAll(t, w, line, parked)
		}
	}
}

// checkReceivesAll has the last task receive what is kept, and then what those who are parked have.
func checkReceivesAll(t *testing.T, w impl.World, line, parked []int64) {
	t.Helper()
	last := int64(impl.MaxTasks - 1)
	for _, who := range parked {
		line = append(line, 11+who)
	}
	for n, elem := range line {
		w = checkTurns(t, w, last, aRecv)
		if w.Hands[last] != impl.Resting(impl.RpValue, elem) {
			t.Fatalf("%d of %v: %+v", n, line, w.Hands[last])
		}
		if len(parked) > 0 {
			checkQuietIs(t, w, false, false) // who was let in has one more step
			w, _ = impl.Stepped(w, parked[0])
			parked = parked[1:]
		}
		checkQuietIs(t, w, true, true)
		checkParkedAre(t, w, parked...)
		checkKept(t, w, line[n+1:][:min(w.Chan.Cap, int64(len(line)-n-1))]...)
	}
	w = checkTurns(t, w, last, aRecv)
	checkParkedAre(t, w, last)
	checkQuietIs(t, w, true, true)
}

// Promise 13: receivers come first, and are parked; who sends then calls them, in their order, and
// leaves it where nobody waits, till he is parked himself.
func TestWhoReceivesAndThenSends(t *testing.T) {
	for cap := int64(0); cap <= impl.MaxCap; cap++ {
		for receivers := int64(0); receivers < impl.MaxTasks; receivers++ {
			w, _ := impl.NewWorld(cap, impl.MaxTasks)
			var parked []int64
			for who := range receivers {
				w = checkTurns(t, w, who, aRecv)
				parked = append(parked, who)
				checkQuietIs(t, w, true, true)
				checkParkedAre(t, w, parked...)
			}
			for who := range receivers {
				w = checkTurns(t, w, 5, callOf(11+who))
				checkQuietIs(t, w, false, false) // who was called has two more steps
				w, _ = impl.Stepped(w, who)
				checkQuietIs(t, w, false, false)
				w, _ = impl.Stepped(w, who)
				if w.Hands[who] != impl.Resting(impl.RpValue, 11+who) {
					t.Fatalf("task %d: %+v", who, w.Hands[who])
				}
				checkQuietIs(t, w, true, true)
				checkParkedAre(t, w, parked[who+1:]...)
				checkKept(t, w)
			}
			var line []int64
			for n := range cap {
				w = checkTurns(t, w, 5, callOf(100+n))
				line = append(line, 100+n)
				checkQuietIs(t, w, true, true)
				checkKept(t, w, line...)
			}
			w = checkTurns(t, w, 5, callOf(99))
			checkQuietIs(t, w, true, true)
			checkParkedAre(t, w, 5)
		}
	}
}

// Promise 13: of those who are parked each set is stopped: it is not quiet till they have gone, and
// fair then, and whenever somebody comes.
func TestQuietWhereEachSetIsStopped(t *testing.T) {
	for cap := int64(0); cap <= impl.MaxCap; cap++ {
		for _, elem := range []int64{0, 11} {
			five := filledWorld(t, cap, 6, elem)
			for who := range int64(5) {
				five = doneIn(t, five, who, callOf(min(elem, 1)*(elem+who)))
			}
			checkQuietIs(t, five, true, true)
			comer := aRecv
			if elem == 0 {
				comer = callOf(77)
			}
			for set := range 1 << 5 {
				w, left := stoppedSet(t, five, set, false)
				checkQuietIs(t, w, set == 0, set == 0)
				checkQuietAsTheyGo(t, w, set)
				for range len(left) + int(cap) + 1 {
					w = checkSettlesQuiet(t, doneIn(t, w, 5, comer))
					if w.Hands[5].At == impl.AtPark {
						break
					}
				}
			}
		}
	}
}

// checkQuietAsTheyGo asks that it is quiet when the last one who was stopped has marked his cell, and no sooner.
func checkQuietAsTheyGo(t *testing.T, w impl.World, set int) {
	t.Helper()
	for who := range int64(5) {
		if set>>who&1 == 0 {
			continue
		}
		for range 2 {
			checkQuietIs(t, w, false, false)
			w, _ = impl.Stepped(w, who)
		}
	}
	checkQuietIs(t, w, true, true)
}

// Promise 13: a sender has made each number of his turns when a receiver makes each number of his:
// whoever goes on then, nobody is left parked.
func TestQuietWhereTwoMeet(t *testing.T) {
	for cap := int64(0); cap <= 2; cap++ {
		for _, filled := range []int64{0, 1} {
			w := filledWorld(t, cap, 3, filled)
			w, _ = impl.Asked(w, 0, callOf(7))
			w, _ = impl.Asked(w, 1, aRecv)
			for _, x := range aloneOf(w, 0) {
				for _, y := range aloneOf(x, 1) {
					z := checkSettlesQuiet(t, y)
					for who := range int64(2) {
						u, _ := impl.Alone(y, who, impl.MaxNow)
						checkSettlesQuiet(t, u)
					}
					if parked := checkParked(t, z); len(parked) > 0 {
						t.Fatalf("cap %d: %v are parked\nworld %+v", cap, parked, z)
					}
				}
			}
		}
	}
}

// quietKinds counts the worlds of each kind that are come by, lest one be missed.
type quietKinds struct{ atWork, none, senders, receivers, full int }

func (k *quietKinds) count(w impl.World) {
	switch {
	case !impl.QuietIn(w):
		k.atWork++
	case parkedWith(w, impl.OpSend) > 0:
		k.senders++
	case parkedWith(w, impl.OpRecv) > 0:
		k.receivers++
	case len(impl.KeptIn(w.Chan)) > 0:
		k.full++
	default:
		k.none++
	}
}

// Promise 13: senders and receivers are asked and stepped by turns, in every order, and stopped
// whenever they are parked.
func TestQuietInAnyOrder(t *testing.T) {
	var kinds quietKinds
	s := callOf(5)
	for _, one := range []struct {
		cap, most int64
		came      []int64 // who is asked and goes on alone ahead of all turns
		calls     [][]impl.Call
	}{
		{0, 3, nil, [][]impl.Call{{s}, {aRecv}}}, {1, 3, nil, [][]impl.Call{{s}, {aRecv}}}, {2, 3, nil, [][]impl.Call{{s, s}, {aRecv}}},
		{1, 3, nil, [][]impl.Call{{s, s}, {aRecv}}}, {1, 3, nil, [][]impl.Call{{s}, {aRecv, aRecv}}}, {0, 3, nil, [][]impl.Call{{s, aRecv}, {aRecv, s}}},
		{0, 3, []int64{6}, [][]impl.Call{nil, {s}, {aRecv}}}, {1, 3, []int64{6}, [][]impl.Call{nil, {s}, {aRecv}}},
		{0, 3, []int64{0}, [][]impl.Call{nil, {s}, {aRecv}}}, {1, 3, []int64{0}, [][]impl.Call{nil, {s}, {aRecv}}},
		{0, 4, []int64{6, 7}, [][]impl.Call{nil, nil, {aRecv}, {aRecv}}}, {1, 4, []int64{6, 7}, [][]impl.Call{nil, nil, {aRecv}, {aRecv}}},
		{1, 4, []int64{6, 7, 8}, [][]impl.Call{nil, nil, nil, {aRecv}}}, {2, 5, []int64{6, 7, 8, 9}, [][]impl.Call{nil, nil, nil, nil, {aRecv}}},
		{0, 4, []int64{0, 0}, [][]impl.Call{nil, nil, {s}, {s}}}, {1, 4, []int64{0, 0}, [][]impl.Call{nil, nil, {s}, {s}}},
	} {
		w, _ := impl.NewWorld(one.cap, int64(len(one.calls)))
		asked, begins := make([]int, len(one.calls)), make([]int64, len(one.calls))
		for who, elem := range one.came {
			w = doneIn(t, w, int64(who), callOf(elem))
			one.calls[who] = []impl.Call{callOf(elem)}
			asked[who], begins[who] = 1, w.Hands[who].Begin
		}
		u := worldTurns{t: t, calls: one.calls, seen: map[worldMoment]bool{}, stops: true, most: one.most}
		u.each = func(w impl.World) {
			kinds.count(w)
			kinds.count(checkSettlesQuiet(t, w))
		}
		u.inAnyOrder(w, asked, begins)
		if u.ends < 2 {
			t.Errorf("%+v: %d ends of %d", one, u.ends, len(u.seen))
		}
	}
	if min(kinds.atWork, kinds.none, kinds.senders, kinds.receivers, kinds.full) < 100 {
		t.Errorf("not all were come by: %+v", kinds)
	}
}

// Promise 13: each cap and each number of tasks, with turns as they are thrown.
func TestQuietAsTheyAreThrown(t *testing.T) {
	var kinds quietKinds
	over := 0
	for seed := range 60 {
		worlds := thrownWorlds(t, int64(seed%5), int64(seed%6)+1, seed+900, 150)
		for _, w := range worlds {
			x := checkSettlesQuiet(t, w)
			kinds.count(w)
			if isOver(x) {
				over++
				continue
			}
			kinds.count(x)
		}
	}
	if min(kinds.atWork, kinds.none, kinds.senders, kinds.receivers, kinds.full) < 100 || over > 5000 {
		t.Errorf("not all were come by: %+v, and %d were over", kinds, over)
	}
}

// checkUnfair changes the channel of a world that is fair to one that no turns lead to: it is right
// and quiet still, and not fair.
func checkUnfair(t *testing.T, w impl.World, change func(c *impl.Chan)) {
	t.Helper()
	checkQuietIs(t, w, true, true)
	x := cloneWorld(w)
	change(&x.Chan)
	if !impl.WorldOk(x) {
		t.Fatalf("it is refused: %+v", x)
	}
	checkQuiet(t, x)
	checkQuietIs(t, x, true, false)
}

// Where a sender is parked though there is room, or a receiver though something is kept, it is not fair.
func TestFairWhereSomebodyIsLeftOut(t *testing.T) {
	for cap := int64(0); cap <= impl.MaxCap; cap++ {
		for who := range int64(impl.MaxTasks) {
			w := doneIn(t, filledWorld(t, cap, impl.MaxTasks, 7), who, callOf(7))
			for n := range int(cap) {
				for _, state := range statesBut(impl.CsKept) {
					checkUnfair(t, w, func(c *impl.Chan) { c.Cells[n].State = state })
				}
			}
			if cap < impl.MaxCap {
				checkUnfair(t, w, func(c *impl.Chan) { c.Cap++ })
			}
			if cap > 0 {
				checkUnfair(t, w, func(c *impl.Chan) { c.Cap-- })
			}
			for n := int(cap); n < impl.MaxCells; n++ { // one more than there is room for
				checkUnfair(t, w, func(c *impl.Chan) { c.Cells[n].State = impl.CsKept })
			}
			v := doneIn(t, filledWorld(t, cap, impl.MaxTasks, 0), who, aRecv)
			for n := range impl.MaxCells {
				checkUnfair(t, v, func(c *impl.Chan) { c.Cells[n].State = impl.CsKept })
			}
			both := withHand(v, int(who+1)%impl.MaxTasks, v.Hands[who])
			both.Hands[(who+1)%impl.MaxTasks].Call = aSend
			checkQuietIs(t, both, true, false)
		}
	}
}

// checkNotQuiet says what is answered where a world is not right.
func checkNotQuiet(t *testing.T, name string, w impl.World) {
	t.Helper()
	before := cloneWorld(w)
	if a, b := impl.QuietIn(w), impl.FairIn(w); a || b {
		t.Fatalf("%s: quiet %v, fair %v", name, a, b)
	}
	if !sameWorld(w, before) {
		t.Fatalf("%s: it was written to", name)
	}
}

// stillWorlds lists worlds that are quiet and fair, each with a Deal: all are at rest, or one is
// parked, or all. The last one meets every limit exactly.
func stillWorlds() []impl.World {
	one, _ := impl.NewWorld(0, 1)
	one.Deals = someDeals(1, 1, 0)
	full := fullWorld()
	clear(full.Hands)
	return []impl.World{
		one, lullWorld(3, 3, impl.CsSend, 0, impl.OpSend, 0), lullWorld(2, 0, impl.CsRecv, impl.OpRecv),
		lullWorld(4, 4, impl.CsDone, slices.Repeat([]int64{impl.OpSend}, impl.MaxTasks)...),
		lullWorld(4, 0, impl.CsRecv, slices.Repeat([]int64{impl.OpRecv}, impl.MaxTasks)...), full,
	}
}

// Promise 19: where a world is not right it is neither quiet nor fair, though nobody there can go on.
func TestQuietOfWrongWorlds(t *testing.T) {
	for _, w := range stillWorlds() {
		checkQuietIs(t, w, true, true)
	}
	for name, w := range wrongsOf(stillWorlds()[:5]) {
		checkNotQuiet(t, name, w)
	}
	for i, right := range stillWorlds() {
		for k, change := range []func(w *impl.World){
			func(w *impl.World) { w.Now = -1 }, func(w *impl.World) { w.Now = impl.MaxNow + 1 },
			func(w *impl.World) { w.Deals[0].End = w.Now + 1 }, func(w *impl.World) { w.Deals[0].Task = int64(len(w.Hands)) },
			func(w *impl.World) { w.Hands[0].Begin = w.Now + 1 }, func(w *impl.World) { w.Hands[0].Out = impl.MaxElem + 1 },
			func(w *impl.World) { w.Hands[0].Mine = -1 }, func(w *impl.World) { w.Hands[0].Call.Elem = -1 },
			func(w *impl.World) { w.Hands[0].At += 26 }, func(w *impl.World) { w.Hands = nil },
			func(w *impl.World) { w.Chan.Words = append(w.Chan.Words, 3) }, func(w *impl.World) { w.Chan.Words = make([]int64, 81) },
			func(w *impl.World) { w.Chan.Cells[38].State = 11 }, func(w *impl.World) { w.Chan.Cells = w.Chan.Cells[:39] },
			func(w *impl.World) { w.Chan.Cells = append(w.Chan.Cells, impl.Cell{}) }, func(w *impl.World) { w.Chan.Sent = 41 },
			func(w *impl.World) { w.Chan.Cap = -1 }, func(w *impl.World) { w.Chan.Cap = impl.MaxCap + 1 },
		} {
			w := cloneWorld(right)
			change(&w)
			if impl.WorldOk(w) {
				t.Fatalf("world %d, change %d: it is accepted", i, k)
			}
			checkNotQuiet(t, fmt.Sprint("world ", i, ", change ", k), w)
		}
	}
}

// Promise 19: each list is as long as it may be, and no longer; and no shorter.
func TestQuietListLengths(t *testing.T) {
	for hands := range 20 {
		for _, deals := range []int{0, 1, impl.MaxDeals, impl.MaxDeals + 1} {
			w := impl.World{Chan: impl.NewChan(1), Hands: make([]impl.Hand, hands), Deals: someDeals(deals, 1, 0)}
			is := hands >= 1 && hands <= 6 && deals <= 1000
			checkQuietIs(t, w, is, is)
		}
	}
	for cells := range 60 {
		for words := range 100 {
			parked := impl.Hand{At: impl.AtPark, Call: aSend, Mine: 1}
			w := impl.World{Chan: impl.Chan{Cells: make([]impl.Cell, cells), Words: make([]int64, words)}, Hands: []impl.Hand{parked}}
			is := cells == 40 && words >= 1 && words <= 80
			checkQuietIs(t, w, is, is)
			w.Hands[0] = impl.Hand{}
			is = cells == 40 && words <= 80
			checkQuietIs(t, w, is, is)
		}
	}
}

// Promise 19: whatever is given, there is an answer.
func TestQuietAnswersAtEveryArgument(t *testing.T) {
	odd := append(oddNumbers(), 3, 4, 5, 6, 7, 17, 22, 23, 24, 999, 1000, 19999, 20000, 20001, math.MaxInt32)
	check := func(w impl.World) {
		t.Helper()
		right := impl.WorldOk(w)
		checkQuietIs(t, w, right && quietBy(w), right && fairBy(w))
	}
	for _, right := range append(stillWorlds(), busyWorld()) {
		last := len(right.Hands) - 1
		for _, n := range odd {
			for _, change := range []func(w *impl.World){
				func(w *impl.World) { w.Now = n }, func(w *impl.World) { w.Chan.Cap = n }, func(w *impl.World) { w.Chan.Sent = n },
				func(w *impl.World) { w.Chan.Got = n }, func(w *impl.World) { w.Chan.End = n },
				func(w *impl.World) { w.Chan.Cells[9].State = n }, func(w *impl.World) { w.Chan.Cells[9].Waiter = n },
				func(w *impl.World) { w.Hands[last].Call.Code = n }, func(w *impl.World) { w.Hands[last].Call.Elem = n },
				func(w *impl.World) { w.Chan.Words = append(w.Chan.Words, n) },
			} {
				w := cloneWorld(right)
				change(&w)
				check(w)
			}
			for _, part := range handParts() {
				w := cloneWorld(right)
				part.put(&w.Hands[last], n)
				check(w)
				w.Hands[last].Call = aRecv
				check(w)
			}
		}
	}
	check(impl.World{})
}

// quietWorlds are worlds of each kind: not quiet, quiet, and fair.
func quietWorlds(t *testing.T) []impl.World {
	t.Helper()
	unfair := []impl.World{lullWorld(2, 1, impl.CsNone, impl.OpSend), lullWorld(2, 1, impl.CsNone, impl.OpSend, impl.OpRecv)}
	return append(append(stopWorlds(t), stillWorlds()...), unfair...)
}

// Promise 19: arguments stay, and so does the room behind their lists, of which nothing is asked.
func TestQuietLeavesItsArgument(t *testing.T) {
	for i, w := range quietWorlds(t) {
		narrow, wide := widened(w)
		before := cloneWorld(wide)
		quiet, fair := quietBy(w), fairBy(w)
		if a, b := impl.QuietIn(narrow), impl.FairIn(narrow); a != quiet || b != fair {
			t.Fatalf("world %d: quiet %v, fair %v, not %v, %v", i, a, b, quiet, fair)
		}
		checkNotQuiet(t, fmt.Sprint("world ", i, " with what is behind it"), wide)
		if !reflect.DeepEqual(wide, before) {
			t.Fatalf("world %d was written to", i)
		}
	}
}

// Promise 19: what was answered before has no say in an answer, and some may ask at once.
func TestQuietKeepsNothing(t *testing.T) {
	worlds := quietWorlds(t)
	done := make(chan string)
	for range 4 {
		go func() {
			wrong := ""
			for range 5 {
				for i, w := range worlds {
					if impl.QuietIn(w) != quietBy(w) || impl.FairIn(w) != fairBy(w) {
						wrong = fmt.Sprint("world ", i, " is answered another way")
					}
				}
			}
			done <- wrong
		}()
	}
	for range 4 {
		if wrong := <-done; wrong != "" {
			t.Error(wrong)
		}
	}
}
