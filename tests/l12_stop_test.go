package tests

import (
	"fmt"
	"math"
	"reflect"
	"slices"
	"testing"

	"loop.example/g00794/impl"
)

// waitsIn tells who is parked and was told nothing yet, by what stands in the world alone.
func waitsIn(w impl.World, who int64) bool {
	h := w.Hands[who]
	return h.At == impl.AtPark && h.Mine > 0 && h.Mine <= int64(len(w.Chan.Words)) && w.Chan.Words[h.Mine-1] == 0
}

// checkParked asks for just those, rising.
func checkParked(t *testing.T, w impl.World) []int64 {
	t.Helper()
	var want []int64
	for who := range int64(len(w.Hands)) {
		if waitsIn(w, who) {
			want = append(want, who)
		}
	}
	if list := impl.ParkedIn(w); !slices.Equal(list, want) {
		t.Fatalf("parked are %v, not %v\nworld %+v", list, want, w)
	}
	return want
}

// checkParkedAre asks that they are just these.
func checkParkedAre(t *testing.T, w impl.World, want ...int64) {
	t.Helper()
	if list := checkParked(t, w); !slices.Equal(list, want) {
		t.Fatalf("parked are %v, not %v\nworld %+v", list, want, w)
	}
}

// checkStopped asks that who can be stopped has another word then, and that all else is as it was.
func checkStopped(t *testing.T, w impl.World, who int64) (impl.World, bool) {
	t.Helper()
	before, want, can := cloneWorld(w), cloneWorld(w), waitsIn(w, who)
	if can {
		want.Chan.Words[w.Hands[who].Mine-1] = 2
	}
	x, is := impl.Stopped(w, who)
	if is != can || !sameWorld(x, want) {
		t.Fatalf("task %d, %+v: %v\nworld %+v\nnot   %+v, %v", who, w.Hands[who], is, x, want, can)
	}
	if !impl.WorldOk(x) || !sameWorld(w, before) {
		t.Fatalf("task %d: %v\nworld %+v\nof    %+v", who, is, x, w)
	}
	checkParked(t, w)
	checkParked(t, x)
	return x, is
}

// checkCant asks the same of who can't be stopped.
func checkCant(t *testing.T, w impl.World, who int64) {
	t.Helper()
	if _, is := checkStopped(t, w, who); is {
		t.Fatalf("task %d, %+v is stopped", who, w.Hands[who])
	}
}

// parkWorld has one task at that hand, among others who are at rest, in that channel.
func parkWorld(c impl.Chan, h impl.Hand, who, tasks int) impl.World {
	w := impl.World{Chan: c, Hands: make([]impl.Hand, tasks), Deals: someDeals(5, tasks, 17), Now: 17}
	w.Hands[who] = h
	return w
}

// Just at AtPark one can be stopped, and there while he waits, whatever the others are at.
func TestStoppedAtEachPlace(t *testing.T) {
	for at := int64(impl.AtRest); at <= impl.AtMark; at++ {
		for _, call := range bothCalls {
			if at == impl.AtRest {
				call = impl.Call{}
			}
			for word := int64(0); word <= impl.WdStopped; word++ {
				for who := range 5 {
					w := withHand(busyWorld(), who, handAt(at, call))
					w.Chan.Words[15] = word
					if _, is := checkStopped(t, w, int64(who)); is != (at == 23 && word == 0) {
						t.Fatalf("at %d, word %d: %v", at, word, is)
					}
				}
			}
		}
	}
}

// It is the word of Mine, from the first one to the last one, be it a sender's or a receiver's, and
// whatever the others have heard.
func TestStoppedTellsTheWordOfMine(t *testing.T) {
	for _, words := range []int{1, 2, 20, impl.MaxWords - 1, impl.MaxWords} {
		for mine := int64(1); mine <= int64(words); mine++ {
			for word := int64(0); word <= impl.WdStopped; word++ {
				for other := int64(0); other <= impl.WdStopped; other++ {
					for i, call := range parkCalls() {
						h := handAt(impl.AtPark, call)
						h.Mine = mine
						w := parkWorld(oneWord(words, mine, word, other), h, i, 4)
						x, is := checkStopped(t, w, int64(i))
						if is != (word == 0) || is && impl.WordOf(x.Chan, mine) != impl.WdStopped {
							t.Fatalf("word %d of %d is %d: %v\nworld %+v", mine, words, word, is, x)
						}
					}
				}
			}
		}
	}
}

// Neither the Waiter of the hand, nor that of the cell, has a say, nor what lies there.
func TestStoppedAsksNothingElse(t *testing.T) {
	for word := int64(0); word <= impl.WdStopped; word++ {
		for other := int64(0); other <= impl.WdStopped; other++ {
			for _, state := range statesBut() {
				for _, waiter := range []int64{0, 5, 16} {
					c := withCell(oneWord(20, 16, word, other), 11, impl.Cell{State: state, Elem: 8, Waiter: waiter})
					for _, call := range parkCalls() {
						for _, h := range eachThen(handAt(impl.AtPark, call)) {
							h.Seen, h.Waiter = state, waiter
							w := parkWorld(c, h, 1, 3)
							if _, is := checkStopped(t, w, 1); is != (word == 0) {
								t.Fatalf("%+v: %v", h, is)
							}
						}
					}
				}
			}
		}
	}
}

// Who is AtPark and has no word at all can't be stopped, and is not parked: in a right world, too.
func TestStoppedWithoutAWord(t *testing.T) {
	for _, words := range []int{0, 1, 20, impl.MaxWords - 1, impl.MaxWords} {
		for _, mine := range []int64{0, int64(words) + 1, impl.MaxWords} {
			if mine > impl.MaxWords || mine > 0 && mine <= int64(words) {
				continue
			}
			for i, call := range parkCalls() {
				h := handAt(impl.AtPark, call)
				h.Mine = mine
				w := parkWorld(worded(make([]int64, words)...), h, i, 6)
				if !impl.WorldOk(w) {
					t.Fatalf("%d words, mine %d: it is refused", words, mine)
				}
				checkCant(t, w, int64(i))
				checkParkedAre(t, w)
			}
		}
	}
}

// No turn is needed to stop somebody: neither a Now more, nor room for a Deal.
func TestStoppedAtEachNow(t *testing.T) {
	for _, deals := range []int{0, 9, impl.MaxDeals - 1, impl.MaxDeals} {
		for _, now := range []int64{17, 33, impl.MaxNow - 1, impl.MaxNow} {
			w := lateWorld(deals, now)
			x, is := checkStopped(t, w, 2)
			if !is || x.Now != now || len(x.Deals) != deals {
				t.Fatalf("%d deals, now %d: %v\nworld %+v", deals, now, is, x)
			}
			checkParkedAre(t, w, 2)
			checkParkedAre(t, x)
		}
	}
	first := handAt(impl.AtPark, aRecv)
	first.Begin = 0
	w := withHand(lateWorld(0, 17), 2, first)
	w.Now, w.Hands = 0, w.Hands[2:3]
	if x, is := checkStopped(t, w, 0); !is || x.Now != 0 {
		t.Errorf("now 0: %v\nworld %+v", is, x)
	}
}

// Who was called, and who was stopped, can't be stopped any more, however far he goes on; nor can he
// when he is at rest.
func TestStoppedOnce(t *testing.T) {
	for cap := int64(0); cap <= impl.MaxCap; cap++ {
		for _, elem := range []int64{0, 5} {
			w := doneIn(t, filledWorld(t, cap, 3, elem), 0, callOf(elem))
			for word := int64(impl.WdCalled); word <= impl.WdStopped; word++ {
				x := cloneWorld(w)
				x.Chan, _ = impl.Told(x.Chan, x.Hands[0].Mine, word)
				if word == impl.WdStopped {
					y, is := checkStopped(t, w, 0)
					if !is || !sameWorld(x, y) {
						t.Fatalf("cap %d, elem %d: %v\nworld %+v", cap, elem, is, y)
					}
				}
				worlds := aloneOf(x, 0)
				for _, y := range worlds {
					checkCant(t, y, 0)
					checkParkedAre(t, y)
				}
				if last := worlds[len(worlds)-1]; last.Hands[0].At != impl.AtRest || (last.Hands[0].Reply == impl.RpStopped) != (word == impl.WdStopped) {
					t.Fatalf("cap %d, elem %d, word %d: %+v", cap, elem, word, last.Hands[0])
				}
			}
		}
	}
}

// Two tasks may have the same word in hand: who stops one has stopped both.
func TestStoppedOfOneWord(t *testing.T) {
	for word := int64(0); word <= impl.WdStopped; word++ {
		w := parkWorld(oneWord(20, 16, word, 0), handAt(impl.AtPark, aSend), 1, 5)
		w.Hands[4] = handAt(impl.AtPark, aRecv)
		w.Hands[3] = handAt(impl.AtPark, aRecv)
		w.Hands[3].Mine = 15
		if word > 0 {
			checkParkedAre(t, w, 3)
			checkCant(t, w, 1)
			checkCant(t, w, 4)
			continue
		}
		checkParkedAre(t, w, 1, 3, 4)
		for _, who := range []int64{1, 4} {
			x, _ := checkStopped(t, w, who)
			checkParkedAre(t, x, 3)
			checkCant(t, x, 5-who)
		}
	}
}

// unparked lists hands of who is not parked: who rests, who was told, who has no word, who waits
// elsewhere, and who was parked before. Their word is that of the same number as in toldWords.
func unparked() []impl.Hand {
	list := []impl.Hand{
		{}, handAt(impl.AtPark, aSend), handAt(impl.AtPark, aRecv), handAt(impl.AtPark, aSend), handAt(impl.AtView, aRecv),
		handAt(impl.AtMeet, aRecv), handAt(impl.AtFetch, aRecv), handAt(impl.AtMark, aSend), handAt(impl.AtSend, aSend),
	}
	for i := range list {
		list[i].Mine = int64(i) + 1
	}
	list[3].Mine = 0
	return list
}

// toldWords are those of unparked, and then of six who wait.
var toldWords = []int64{0, 1, 2, 0, 0, 0, 1, 2, 0, 0, 0, 0, 0, 0, 0}

// Of each number of tasks each set: nobody, one, some, all; rising, whoever the others are.
func TestParkedInOfEachSet(t *testing.T) {
	others := unparked()
	c := withCell(worded(toldWords...), 11, impl.Cell{State: impl.CsGrow})
	c = withCell(c, 15, impl.Cell{State: impl.CsCall})
	for tasks := 1; tasks <= impl.MaxTasks; tasks++ {
		for set := range 1 << tasks {
			for shift := range others {
				w := impl.World{Chan: c, Hands: make([]impl.Hand, tasks), Now: 17}
				var want []int64
				for who := range tasks {
					w.Hands[who] = others[(who+shift)%len(others)]
					if set>>who&1 == 1 {
						w.Hands[who] = handAt(impl.AtPark, bothCalls[(who+shift)%2])
						w.Hands[who].Mine = int64(len(toldWords) - who)
						want = append(want, int64(who))
					}
				}
				checkParkedAre(t, w, want...)
				for who := range int64(tasks) {
					x, is := checkStopped(t, w, who)
					if is != slices.Contains(want, who) {
						t.Fatalf("task %d of %v: %v", who, want, is)
					}
					checkParkedAre(t, x, slices.DeleteFunc(slices.Clone(want), func(n int64) bool { return n == who })...)
				}
			}
		}
	}
}

// doneIn has a task asked, and go on alone till it is at rest or parked.
func doneIn(t *testing.T, w impl.World, who int64, c impl.Call) impl.World {
	t.Helper()
	w, k := impl.Asked(w, who, c)
	w, n := impl.Alone(w, who, impl.MaxNow)
	if k != impl.CdOk || n < 1 || w.Hands[who].At != impl.AtRest && !waitsIn(w, who) {
		t.Fatalf("task %d, %v: %d, %d steps\nworld %+v", who, c, k, n, w)
	}
	return w
}

// filledWorld is one in which who comes with that is parked: for who sends, the last task has filled
// the buffer with 101 and so on.
func filledWorld(t *testing.T, cap, tasks, elem int64) impl.World {
	t.Helper()
	w, _ := impl.NewWorld(cap, tasks)
	if elem == 0 {
		return w
	}
	for n := range cap {
		w = doneIn(t, w, tasks-1, callOf(101+n))
	}
	return w
}

// outsOf lists what was received, in order.
func outsOf(w impl.World) []int64 {
	var list []int64
	for _, d := range w.Deals {
		if d.Reply == impl.RpValue {
			list = append(list, d.Out)
		}
	}
	return list
}

// keptAnd is what filledWorld has kept, and then those.
func keptAnd(cap int64, elems ...int64) []int64 {
	var list []int64
	for n := range cap {
		list = append(list, 101+n)
	}
	return append(list, elems...)
}

// settledFrom lists what becomes of a world: settled, be it at once, or when one of the tasks has
// gone on alone.
func settledFrom(t *testing.T, w impl.World) []impl.World {
	t.Helper()
	first, _ := impl.Settled(w, impl.MaxNow)
	list := []impl.World{first}
	for who := range int64(len(w.Hands)) {
		x, n := impl.Alone(w, who, impl.MaxNow)
		if n > 0 {
			x, _ = impl.Settled(x, impl.MaxNow)
			list = append(list, x)
		}
	}
	return list
}

// checkGone asks that the task, which was stopped in time in w, has ended so in x, that its cell tells
// so, and that nobody has what it would have sent.
func checkGone(t *testing.T, w, x impl.World, who int64) {
	t.Helper()
	h := w.Hands[who]
	i := slices.IndexFunc(x.Deals[len(w.Deals):], func(d impl.Deal) bool { return d.Task == who })
	if i < 0 || x.Hands[who] != impl.Resting(impl.RpStopped, 0) {
		t.Fatalf("task %d is not stopped: %+v\nworld %+v", who, x.Hands[who], x)
	}
	d := x.Deals[len(w.Deals)+i]
	want := impl.Deal{Task: who, Call: h.Call, Begin: h.Begin, End: d.End, Reply: impl.RpStopped}
	if d != want || d.End <= w.Now || d.End > x.Now {
		t.Fatalf("task %d: %+v\nnot %+v, from %d to %d", who, d, want, w.Now, x.Now)
	}
	if cell := x.Chan.Cells[h.Cell]; cell.State != goneBy(h.Call) {
		t.Fatalf("task %d left %+v in cell %d\nworld %+v", who, cell, h.Cell, x)
	}
	if e := h.Call.Elem; h.Call.Code == impl.OpSend && (slices.Contains(outsOf(x), e) || slices.Contains(impl.KeptIn(x.Chan), e)) {
		t.Fatalf("%d of task %d was received, or is kept\nworld %+v", e, who, x)
	}
}

// atEachTurn has the last task asked, and the first one stopped at each turn of that one, from none
// to the last; check is given what becomes of each such world, and whether that was in time.
func atEachTurn(t *testing.T, w impl.World, c impl.Call, inTime int, check func(x impl.World, is bool)) {
	t.Helper()
	last := int64(len(w.Hands)) - 1
	w, _ = checkAsked(t, w, last, c)
	times := 0
	for turn, y := range aloneOf(w, last) {
		x, is := checkStopped(t, y, 0)
		if is {
			times++
			checkParkedAre(t, y, 0, 1)
		}
		checkParkedAre(t, x, 1)
		if is != (turn < inTime) {
			t.Fatalf("turn %d: %v", turn, is)
		}
		for _, z := range settledFrom(t, x) {
			if is {
				checkGone(t, y, z, 0)
			} else if z.Hands[0].At != impl.AtRest || z.Hands[0].Reply == impl.RpStopped {
				t.Fatalf("turn %d: task 0 is not served: %+v", turn, z.Hands[0])
			}
			check(z, is)
		}
	}
	if times != inTime {
		t.Fatalf("in time at %d turns, not at %d", times, inTime)
	}
}

// Promise 12: a sender is stopped at each of the turns of who takes what he has, or raises him into
// the buffer. The next one is served instead; and who comes then receives all but what is not sent.
func TestWhoSendsIsStoppedAtEachTurn(t *testing.T) {
	for cap := int64(0); cap <= impl.MaxCap; cap++ {
		w := filledWorld(t, cap, 3, 7)
		w = doneIn(t, doneIn(t, w, 0, callOf(7)), 1, callOf(8))
		inTime := 8 // he is raised by the eighth step
		if cap == 0 {
			inTime = 4 // he is called by the fourth one
		}
		atEachTurn(t, w, aRecv, inTime, func(x impl.World, is bool) {
			want := keptAnd(cap, 7, 8)
			if is {
				want = keptAnd(cap, 8)
				checkParkedAre(t, x) // the next one was let in
			} else {
				checkParkedAre(t, x, 1)
			}
			for range len(want) - 1 {
				x = doneIn(t, x, 2, aRecv)
			}
			x, _ = impl.Settled(x, impl.MaxNow)
			if list := outsOf(x); !slices.Equal(list, want) || x.Hands[1] != impl.Resting(impl.RpOk, 0) {
				t.Fatalf("cap %d, %v: %v were received, not %v\nworld %+v", cap, is, list, want, x)
			}
			checkParkedAre(t, doneIn(t, x, 2, aRecv), 2)
		})
	}
}

// Promise 12: a receiver is stopped at each of the turns of who sends to him: the next one has it
// then, and what is sent behind it is left, or taken by nobody.
func TestWhoReceivesIsStoppedAtEachTurn(t *testing.T) {
	for cap := int64(0); cap <= impl.MaxCap; cap++ {
		w := filledWorld(t, cap, 3, 0)
		w = doneIn(t, doneIn(t, w, 0, aRecv), 1, aRecv)
		atEachTurn(t, w, callOf(7), 4, func(x impl.World, is bool) {
			if is && x.Hands[1] != impl.Resting(impl.RpValue, 7) || !is && x.Hands[0] != impl.Resting(impl.RpValue, 7) {
				t.Fatalf("cap %d, %v: 7 is not received\nworld %+v", cap, is, x)
			}
			if x.Hands[2] != impl.Resting(impl.RpOk, 0) {
				t.Fatalf("cap %d, %v: 7 is not sent\nworld %+v", cap, is, x)
			}
			x = doneIn(t, x, 2, callOf(8))
			x, _ = impl.Settled(x, impl.MaxNow)
			switch kept := impl.KeptIn(x.Chan); {
			case !is:
				if x.Hands[1] != impl.Resting(impl.RpValue, 8) || len(kept) > 0 {
					t.Fatalf("cap %d: 8 is not received\nworld %+v", cap, x)
				}
			case cap == 0:
				checkParkedAre(t, x, 2)
			case !slices.Equal(kept, []int64{8}):
				t.Fatalf("cap %d: %v are kept", cap, kept)
			}
		})
	}
}

// stoppedSet stops each of that set of the first five tasks, and has them go on at once if it
// settles; left are the others.
func stoppedSet(t *testing.T, w impl.World, set int, settles bool) (x impl.World, left []int64) {
	t.Helper()
	for who := range int64(5) {
		if set>>who&1 == 0 {
			left = append(left, who)
			continue
		}
		is := false
		if w, is = checkStopped(t, w, who); !is {
			t.Fatalf("task %d of set %b can't be stopped", who, set)
		}
	}
	checkParkedAre(t, w, left...)
	if settles {
		w, _ = impl.Settled(w, impl.MaxNow)
		checkParkedAre(t, w, left...)
	}
	return w, left
}

// checkSetGone asks that just those of the set were told so.
func checkSetGone(t *testing.T, w impl.World, set int) {
	t.Helper()
	w, _ = impl.Settled(w, impl.MaxNow)
	for who, h := range w.Hands[:5] {
		if stopped := h == impl.Resting(impl.RpStopped, 0); stopped != (set>>who&1 == 1) {
			t.Fatalf("set %b, task %d: %+v", set, who, h)
		}
	}
}

// Promise 12: of five senders who are parked each set is stopped, be they gone by then or not: who
// receives gets just what the others send, in their order.
func TestSendersOfEachSetAreStopped(t *testing.T) {
	for cap := int64(0); cap <= impl.MaxCap; cap++ {
		five := filledWorld(t, cap, 6, 1)
		for who := range int64(5) {
			five = doneIn(t, five, who, callOf(11+who))
		}
		for set := range 1 << 5 {
			for _, settles := range []bool{false, true} {
				w, left := stoppedSet(t, five, set, settles)
				want := keptAnd(cap)
				for _, who := range left {
					want = append(want, 11+who)
				}
				for range want {
					w = doneIn(t, w, 5, aRecv)
				}
				if list := outsOf(w); !slices.Equal(list, want) {
					t.Fatalf("cap %d, set %b: %v were received, not %v\nworld %+v", cap, set, list, want, w)
				}
				checkSetGone(t, w, set)
				checkParkedAre(t, doneIn(t, w, 5, aRecv), 5)
			}
		}
	}
}

// Promise 12: the same of five receivers: just the others get what is sent, each in its turn.
func TestReceiversOfEachSetAreStopped(t *testing.T) {
	for cap := int64(0); cap <= impl.MaxCap; cap++ {
		five := filledWorld(t, cap, 6, 0)
		for who := range int64(5) {
			five = doneIn(t, five, who, aRecv)
		}
		for set := range 1 << 5 {
			for _, settles := range []bool{false, true} {
				w, left := stoppedSet(t, five, set, settles)
				for n := range left {
					w = doneIn(t, w, 5, callOf(int64(n)+21))
				}
				checkSetGone(t, w, set)
				w, _ = impl.Settled(w, impl.MaxNow)
				for n, who := range left {
					if w.Hands[who] != impl.Resting(impl.RpValue, int64(n)+21) {
						t.Fatalf("cap %d, set %b: task %d, %+v", cap, set, who, w.Hands[who])
					}
				}
				w = doneIn(t, w, 5, callOf(31))
				if kept := impl.KeptIn(w.Chan); cap > 0 && !slices.Equal(kept, []int64{31}) || cap == 0 && !waitsIn(w, 5) {
					t.Fatalf("cap %d, set %b: %v are kept\nworld %+v", cap, set, kept, w)
				}
			}
		}
	}
}

// checkHeeds asks that who comes to rest is stopped just where he was told so.
func checkHeeds(t *testing.T, w, x impl.World, who int64) {
	t.Helper()
	if x.Hands[who].At != impl.AtRest {
		return
	}
	told := impl.WordOf(w.Chan, w.Hands[who].Mine) == impl.WdStopped
	if told != (x.Hands[who].Reply == impl.RpStopped) {
		t.Fatalf("task %d, told %v: %+v\nworld %+v", who, told, x.Hands[who], w)
	}
}

// checkAllHeeded asks of a world in which nobody can go on that as many have left, and as many cells
// tell so, as were stopped.
func checkAllHeeded(t *testing.T, w impl.World) {
	t.Helper()
	stopped, gone := 0, 0
	for _, word := range w.Chan.Words {
		if word == impl.WdStopped {
			stopped++
		}
	}
	for _, d := range w.Deals {
		if d.Reply == impl.RpStopped {
			gone++
		}
	}
	cells := len(impl.WaitingIn(w.Chan, impl.CsGoneSend)) + len(impl.WaitingIn(w.Chan, impl.CsGoneRecv))
	if stopped != gone || stopped != cells {
		t.Fatalf("%d were stopped, %d have left, and %d cells tell so\nworld %+v", stopped, gone, cells, w)
	}
}

// checkServedLater has the last task, which is at rest, come to each who is parked yet: one less is
// parked each time, till nobody is.
func checkServedLater(t *testing.T, w impl.World) {
	t.Helper()
	last := int64(len(w.Hands)) - 1
	for n := len(checkParked(t, w)); n > 0; n-- {
		c := callOf(int64(900 + n))
		if w.Hands[checkParked(t, w)[0]].Call.Code == impl.OpSend {
			c = aRecv
		}
		w = doneIn(t, w, last, c)
		w, _ = impl.Settled(w, impl.MaxNow)
		if list := checkParked(t, w); len(list) != n-1 || w.Hands[last].At != impl.AtRest || w.Hands[last].Reply == impl.RpOver {
			t.Fatalf("parked are %v, not %d\nworld %+v", list, n-1, w)
		}
	}
	for who, h := range w.Hands {
		if h.At != impl.AtRest {
			t.Fatalf("task %d is not served: %+v\nworld %+v", who, h, w)
		}
	}
}

// checkStopsHere stops each who is parked in that world, one at a time, and settles it then.
func checkStopsHere(t *testing.T, w impl.World) {
	t.Helper()
	for who := range int64(len(w.Hands)) {
		x, is := checkStopped(t, w, who)
		if !is {
			continue
		}
		y, _ := impl.Settled(x, impl.MaxNow)
		checkGone(t, w, y, who)
		checkAllHeeded(t, y)
		checkServedLater(t, y)
	}
}

// cameWorld has the first of those come, one after the other, till they are at rest or parked; one
// more task has nothing to do.
func cameWorld(t *testing.T, cap int64, elems []int64, came int) (w impl.World, calls [][]impl.Call) {
	t.Helper()
	w, _ = impl.NewWorld(cap, int64(len(elems))+1)
	for who, e := range elems {
		calls = append(calls, []impl.Call{callOf(e)})
		if who < came {
			w = doneIn(t, w, int64(who), callOf(e))
		}
	}
	return w, append(calls, nil)
}

// Promise 12: senders and receivers by turns, in every order; whoever is parked is stopped, whenever.
func TestStoppedInAnyOrder(t *testing.T) {
	for _, one := range []struct {
		cap, most int64
		came      int
		elems     []int64
	}{
		{0, 4, 0, []int64{5, 0}}, {1, 4, 0, []int64{0, 5}}, {0, 3, 1, []int64{5, 6, 0}}, {0, 3, 1, []int64{0, 0, 5}},
		{0, 4, 2, []int64{5, 6, 0, 0}}, {0, 4, 2, []int64{0, 0, 5, 6}}, {1, 4, 2, []int64{4, 5, 0, 0}}, {1, 4, 3, []int64{4, 5, 6, 0}},
		{1, 4, 2, []int64{0, 0, 5, 6}}, {2, 5, 3, []int64{4, 5, 6, 0}}, {1, 4, 1, []int64{0, 5, 6}},
	} {
		w, calls := cameWorld(t, one.cap, one.elems, one.came)
		asked, begins := make([]int, len(calls)), make([]int64, len(calls))
		for who := range one.came {
			asked[who], begins[who] = 1, w.Hands[who].Begin
		}
		u := worldTurns{t: t, calls: calls, seen: map[worldMoment]bool{}, stops: true, most: one.most}
		u.each = func(w impl.World) { checkStopsHere(t, w) }
		u.inAnyOrder(w, asked, begins)
		if u.ends < 2 {
			t.Errorf("%+v: %d ends of %d", one, u.ends, len(u.seen))
		}
	}
}

// Promise 12: each cap and each number of tasks, with turns as they are thrown.
func TestStoppedAsTheyAreThrown(t *testing.T) {
	stops, cants := 0, 0
	for seed := range 60 {
		worlds := thrownWorlds(t, int64(seed%5), int64(seed%6)+1, seed+500, 150)
		for _, w := range worlds {
			for who := range int64(len(w.Hands)) {
				x, is := checkStopped(t, w, who)
				if !is {
					cants++
					continue
				}
				stops++
				y, _ := impl.Settled(x, impl.MaxNow)
				checkGone(t, w, y, who)
				checkAllHeeded(t, y)
			}
		}
	}
	if stops < 500 || cants < 500 {
		t.Errorf("%d could be stopped, and %d could not", stops, cants)
	}
}

// No such task is answered with the zero world, below 0 and behind the last one, where all are parked too.
func TestStoppedOfNoSuchTask(t *testing.T) {
	for tasks := 1; tasks <= impl.MaxTasks; tasks++ {
		for _, now := range []int64{17, impl.MaxNow} {
			w := parkWorld(worded(make([]int64, 20)...), handAt(impl.AtPark, aRecv), 0, tasks)
			w.Now = now
			for who := range w.Hands {
				w.Hands[who] = w.Hands[0]
			}
			before := cloneWorld(w)
			for _, who := range strays(tasks) {
				if x, is := impl.Stopped(w, who); is || !isZero(x) || !sameWorld(w, before) {
					t.Errorf("task %d of %d: %v\nworld %+v", who, tasks, is, x)
				}
			}
			for who := range int64(tasks) {
				if _, is := checkStopped(t, w, who); !is {
					t.Errorf("task %d of %d can't be stopped", who, tasks)
				}
			}
		}
	}
}

// checkNobodyStopped says what is answered where a world is not right.
func checkNobodyStopped(t *testing.T, name string, w impl.World) {
	t.Helper()
	before := cloneWorld(w)
	for who := int64(-1); who <= int64(len(w.Hands)); who++ {
		if x, is := impl.Stopped(w, who); is || !isZero(x) {
			t.Fatalf("%s: task %d: %v\nworld %+v", name, who, is, x)
		}
	}
	if list := impl.ParkedIn(w); len(list) > 0 {
		t.Fatalf("%s: parked are %v", name, list)
	}
	if !sameWorld(w, before) {
		t.Fatalf("%s: it was written to", name)
	}
}

// Promise 19: where a world is not right nobody is parked, and nobody is stopped.
func TestStoppedInWrongWorlds(t *testing.T) {
	for name, w := range wrongWorlds() {
		checkNobodyStopped(t, name, w)
	}
	right, _ := cameWorld(t, 1, []int64{0, 0, 0}, 3)
	for i, wrong := range []func(w *impl.World){
		func(w *impl.World) { w.Now = -1 },
		func(w *impl.World) { w.Now = impl.MaxNow + 1 },
		func(w *impl.World) { w.Now = w.Hands[2].Begin - 1 },
		func(w *impl.World) { w.Hands[1].Mine = impl.MaxWords + 1 },
		func(w *impl.World) { w.Hands[1].Mine = -1 },
		func(w *impl.World) { w.Hands[1].Call = impl.Call{} },
		func(w *impl.World) { w.Hands[3].Call = aRecv },
		func(w *impl.World) { w.Hands = append(w.Hands, make([]impl.Hand, 3)...) },
		func(w *impl.World) { w.Deals = make([]impl.Deal, 1) },
		func(w *impl.World) { w.Deals = someDeals(impl.MaxDeals+1, 1, 0) },
		func(w *impl.World) { w.Chan.Words[1] = 3 },
		func(w *impl.World) { w.Chan.Words = w.Chan.Words[:1] },
		func(w *impl.World) { w.Chan.Cells = w.Chan.Cells[:impl.MaxCells-1] },
		func(w *impl.World) { w.Chan.Cap = impl.MaxCap + 1 },
	} {
		checkParkedAre(t, right, 0, 1, 2)
		w := cloneWorld(right)
		wrong(&w)
		checkNobodyStopped(t, fmt.Sprint("change ", i), w)
	}
}

// Promise 19: whatever is given, there is an answer, of its kind.
func TestStoppedAnswersAtEveryArgument(t *testing.T) {
	in := func(n, least, most int64) bool { return n >= least && n <= most }
	for _, n := range append(oddNumbers(), 3, 4, 5, 16, 17, 20, 21, 22, 23, 24, 33, math.MaxInt32) {
		if x, is := impl.Stopped(busyWorld(), n); is != (n == 2) || in(n, 0, 4) == isZero(x) {
			t.Fatalf("task %d: %v", n, is)
		}
		for _, m := range append(oddNumbers(), 3, 4, 5, 16, 17, 20, 21, 22, 23, 24, 33) {
			h := handAt(impl.AtPark, impl.Call{Code: impl.OpSend, Elem: m})
			h.Mine = n
			right := in(n, 0, 80) && in(m, 0, 999)
			checkKindOfStop(t, withHand(busyWorld(), 1, h), right, right && in(n, 10, 20))
			h = handAt(n, impl.Call{Code: m})
			right = in(n, 1, 25) && in(m, 1, 2) || n == 0 && m == 0
			checkKindOfStop(t, withHand(busyWorld(), 1, h), right, right && n == 23)
			w := busyWorld()
			w.Hands, w.Deals, w.Now = slices.Repeat(w.Hands[2:3], 2), nil, m
			w.Hands[1].Begin = n
			right = in(m, 17, 20000) && in(n, 0, m)
			checkKindOfStop(t, w, right, right)
		}
	}
}

// checkKindOfStop asks of task 1 whether it can be stopped, in a world that is right or not.
func checkKindOfStop(t *testing.T, w impl.World, right, can bool) {
	t.Helper()
	if !right {
		checkNobodyStopped(t, fmt.Sprintf("%+v", w.Hands[1]), w)
		return
	}
	if _, is := checkStopped(t, w, 1); is != can {
		t.Fatalf("now %d, %+v: %v", w.Now, w.Hands[1], is)
	}
}

// stopAnswers lists what Stopped answers of a world, be it as it is or another one.
func stopAnswers(w impl.World) []impl.World {
	var list []impl.World
	for who := range int64(len(w.Hands)) + 1 {
		x, _ := impl.Stopped(w, who)
		list = append(list, x)
	}
	return list
}

// stopWorlds are manyWorlds, and such in which senders or receivers are parked.
func stopWorlds(t *testing.T) []impl.World {
	t.Helper()
	senders, _ := cameWorld(t, 1, []int64{4, 5, 6, 7}, 4)
	receivers, _ := cameWorld(t, 2, []int64{0, 0, 0}, 3)
	stopped, _ := checkStopped(t, senders, 2)
	return append(manyWorlds(t), senders, receivers, stopped, lateWorld(impl.MaxDeals, impl.MaxNow))
}

// Promise 19: answers are new memory.
func TestStoppedIsNewMemory(t *testing.T) { checkNewWorlds(t, stopWorlds(t), stopAnswers) }

// Promise 19: no two lists of one answer share any.
func TestStoppedHasListsOfItsOwn(t *testing.T) { checkOwnLists(t, stopWorlds(t), stopAnswers) }

// Promise 19: arguments stay, and the room behind them too.
func TestStoppedLeavesItsArgument(t *testing.T) { checkWorldsStay(t, stopWorlds(t), stopAnswers) }

// Promise 19: a list of who is parked is new each time, and neither it nor the room behind it is the world's.
func TestParkedInIsNewMemory(t *testing.T) {
	for i, w := range stopWorlds(t) {
		narrow, wide := widened(w)
		before := cloneWorld(wide)
		first, second, want := impl.ParkedIn(narrow), impl.ParkedIn(narrow), checkParked(t, w)
		impl.ParkedIn(wide)
		fill(first, -7)
		if !slices.Equal(second, want) || !slices.Equal(impl.ParkedIn(narrow), want) {
			t.Fatalf("world %d: two lists share their memory: %v", i, second)
		}
		fill(second, -7)
		if !reflect.DeepEqual(wide, before) {
			t.Fatalf("world %d was written to", i)
		}
	}
}
