package tests

import (
	"fmt"
	"math"
	"reflect"
	"slices"
	"testing"

	"loop.example/g00794/impl"
)

// timed is a right Deal from begin to end, told apart by its number.
func timed(number int, begin, end int64) impl.Deal {
	kinds := replied()
	d := kinds[number%len(kinds)]
	d.Task, d.Begin, d.End, d.Out = int64(number%impl.MaxTasks), begin, end, int64(number%(impl.MaxElem+1))
	return d
}

// pastOf lists so many Deals that make a past, each of which is ahead of the next one.
func pastOf(n int) []impl.Deal {
	var list []impl.Deal
	for i := range n {
		list = append(list, timed(i, int64(3*i), int64(3*i)+2))
	}
	return list
}

// dealtWorld is a right world of all tasks at rest, with those Deals.
func dealtWorld(deals ...impl.Deal) impl.World {
	w, _ := impl.NewWorld(2, impl.MaxTasks)
	w.Deals, w.Now = deals, impl.MaxNow
	return w
}

// pastBy tells the past of a right world: it takes the earliest one, again and again, of the last
// ones that count.
func pastBy(w impl.World) []impl.Deal {
	left := slices.DeleteFunc(slices.Clone(w.Deals), func(d impl.Deal) bool { return d.Begin >= d.End })
	left = left[max(0, len(left)-14):]
	var past []impl.Deal
	for len(left) > 0 {
		first := 0
		for i := range left {
			if left[i].Begin < left[first].Begin {
				first = i
			}
		}
		past = append(past, left[first])
		left = slices.Delete(left, first, first+1)
	}
	return past
}

// checkAhead asks of a past in order of Begin that who is ahead of one is ahead of all that come
// later, and of nobody that comes before.
func checkAhead(t *testing.T, past []impl.Deal) {
	t.Helper()
	for i, d := range past {
		isAhead := false // of who came just before k
		for k, e := range past {
			is := impl.AheadOf(past, int64(i), int64(k))
			if is != (d.End < e.Begin) || is && k <= i || isAhead && !is {
				t.Fatalf("%d ahead of %d: %v\npast %+v", i, k, is, past)
			}
			isAhead = is
		}
	}
}

// checkPast asks for just that past of a right world, and that the argument stays.
func checkPast(t *testing.T, w impl.World) []impl.Deal {
	t.Helper()
	before, want := cloneWorld(w), pastBy(w)
	var past []impl.Deal
	for range 2 { // and the same again
		if past = impl.PastOf(w); !slices.Equal(past, want) {
			t.Fatalf("the past is %+v\nnot %+v\nof %+v", past, want, w.Deals)
		}
	}
	if !sameWorld(w, before) {
		t.Fatalf("it wrote to its argument\nworld %+v\nof    %+v", w, before)
	}
	if !impl.PastOk(past) {
		t.Fatalf("it is no past: %+v", past)
	}
	checkAhead(t, past)
	return past
}

// checkPlayed asks of a played world that its past rises by Begin, and that of two Deals of one task
// the first one is ahead.
func checkPlayed(t *testing.T, w impl.World) []impl.Deal {
	t.Helper()
	past := checkPast(t, w)
	if want := min(len(w.Deals), 14); len(past) != want {
		t.Fatalf("%d are past, not %d", len(past), want)
	}
	for i := range past {
		for k := range past[:i] {
			if past[k].Begin >= past[i].Begin || past[k].Task == past[i].Task && !impl.AheadOf(past, int64(k), int64(i)) {
				t.Fatalf("%d and %d of %+v", k, i, past)
			}
		}
	}
	return past
}

// checkPastIs asks that the past of a right world is of just the Deals of those numbers, in that order.
func checkPastIs(t *testing.T, w impl.World, numbers ...int) {
	t.Helper()
	var outs []int
	for _, d := range checkPast(t, w) {
		outs = append(outs, int(d.Out))
	}
	if !slices.Equal(outs, numbers) {
		t.Fatalf("of %d Deals %v are past, not %v", len(w.Deals), outs, numbers)
	}
}

// checkPastOk asks for that answer, and that the argument stays.
func checkPastOk(t *testing.T, list []impl.Deal, want bool) {
	t.Helper()
	before := slices.Clone(list)
	for range 2 {
		if is := impl.PastOk(list); is != want {
			t.Fatalf("%v: %+v", is, list)
		}
	}
	if !slices.Equal(list, before) {
		t.Fatalf("it wrote to its argument: %+v\nof %+v", list, before)
	}
}

// manyTimes are those at which something may begin or end, right in a world or not.
func manyTimes() []int64 {
	return append(oddNumbers(), -2, 3, 19999, 20000, 20001, math.MaxInt32, math.MinInt32)
}

func TestPastNumbers(t *testing.T) {
	if impl.MaxPast != 14 {
		t.Error("MaxPast is not the document's")
	}
}

// Up to MaxPast Deals are a past, and one more is not.
func TestPastOkListLengths(t *testing.T) {
	for n := range 40 {
		checkPastOk(t, pastOf(n), n <= 14)
		checkPastOk(t, slices.Repeat(pastOf(1), n), n <= 14)
	}
	for _, n := range []int{255, 256, 257, 270, 1000, 1<<16 + 14} {
		checkPastOk(t, pastOf(n), false)
	}
	checkPastOk(t, nil, true)
	checkPastOk(t, []impl.Deal{}, true)
}

// The End is more than the Begin, be it by one or by as much as can be, wherever the Deal is.
func TestPastOkTimes(t *testing.T) {
	for _, n := range []int{1, 2, 7, impl.MaxPast} {
		for _, at := range []int{0, n / 2, n - 1} {
			for _, begin := range manyTimes() {
				for _, end := range append(manyTimes(), begin, begin-1, begin+1) {
					list := pastOf(n)
					list[at].Begin, list[at].End = begin, end
					checkPastOk(t, list, end > begin)
				}
			}
		}
	}
}

// Each reply that may be is right, of each right call.
func TestPastOkOfEachReply(t *testing.T) {
	for _, c := range rightCalls() {
		for _, reply := range append(allReplies, wrongOnes(impl.RpOver)...) {
			d := impl.Deal{Call: c, Begin: 1, End: 2, Reply: reply}
			checkPastOk(t, []impl.Deal{d}, slices.Contains(replies[c.Code], reply))
		}
	}
}

// Promise 19: one Deal that is not ReplyOk, and it is no past, wherever that one is.
func TestPastOkOfWrongReplies(t *testing.T) {
	var wrong []impl.Deal
	for _, reply := range allReplies {
		for _, c := range append(wrongCalls(), impl.Call{}) {
			wrong = append(wrong, impl.Deal{Call: c, Reply: reply})
		}
	}
	for _, reply := range append(wrongOnes(impl.RpOver), oddNumbers()...) {
		for _, c := range []impl.Call{aSend, aRecv, {Code: impl.OpSend}, {Code: impl.OpSend, Elem: impl.MaxElem}} {
			if !slices.Contains(replies[c.Code], reply) {
				wrong = append(wrong, impl.Deal{Call: c, Reply: reply})
			}
		}
	}
	wrong = append(wrong, impl.Deal{Call: aSend, Reply: impl.RpValue}, impl.Deal{Call: aRecv, Reply: impl.RpOk})
	for _, n := range []int{1, 2, impl.MaxPast} {
		for _, at := range []int{0, n / 2, n - 1} {
			for _, d := range wrong {
				list := pastOf(n)
				list[at].Call, list[at].Reply = d.Call, d.Reply
				checkPastOk(t, list, false)
			}
		}
	}
}

// Neither the Task nor the Out is asked, nor in which order they are, nor whether one task had two at once.
func TestPastOkAsksNothingElse(t *testing.T) {
	for _, n := range manyTimes() {
		list := pastOf(impl.MaxPast)
		list[0].Task, list[13].Task, list[3].Out, list[13].Out = n, n, n, n
		checkPastOk(t, list, true)
	}
	back := pastOf(impl.MaxPast)
	slices.Reverse(back)
	checkPastOk(t, back, true)
	for i := range back {
		back[i].Task, back[i].Begin, back[i].End = 2, 5, 6
	}
	checkPastOk(t, back, true)
}

// aheadNumbers are those of a list of n, and such as are not there.
func aheadNumbers(n int) []int64 {
	numbers := append(outOf(int64(n)-1), math.MinInt64+1, 1<<32+1, math.MaxInt64-1)
	for i := range int64(n) {
		numbers = append(numbers, i, i+1<<32, i-1<<32, i+math.MinInt64)
	}
	return numbers
}

// checkEachAhead asks of each two numbers whether one is ahead of the other one, there or not.
func checkEachAhead(t *testing.T, list []impl.Deal) {
	t.Helper()
	before := slices.Clone(list)
	is := func(i int64) bool { return 0 <= i && i < int64(len(list)) }
	for _, i := range aheadNumbers(len(list)) {
		for _, k := range aheadNumbers(len(list)) {
			want := is(i) && is(k) && list[i].End < list[k].Begin
			if got := impl.AheadOf(list, i, k); got != want {
				t.Fatalf("%d ahead of %d: %v\nof %+v", i, k, got, list)
			}
		}
	}
	if !slices.Equal(list, before) {
		t.Fatalf("it wrote to its argument: %+v\nof %+v", list, before)
	}
}

// An End that is the other's Begin is not ahead of it; one less is.
func TestAheadOf(t *testing.T) {
	for i, one := range []struct {
		begin, end, then, last int64
		is, back               bool
	}{
		{0, 1, 2, 3, true, false}, {0, 1, 1, 2, false, false}, {0, 2, 1, 3, false, false}, {0, 3, 1, 2, false, false},
		{1, 2, 0, 3, false, false}, {2, 3, 0, 1, false, true}, {1, 2, 0, 1, false, false}, {0, 1, 0, 1, false, false},
		{5, 9, 10, 20000, true, false}, {5, 9, 9, 20000, false, false}, {0, 19998, 19999, 20000, true, false},
		{0, 19999, 19999, 20000, false, false}, {math.MinInt64, -1, math.MaxInt64 - 1, math.MaxInt64, true, false},
		{math.MinInt64, math.MinInt64 + 1, 1, math.MaxInt64, true, false}, {-3, -2, -1, 0, true, false},
		{math.MaxInt64 - 1, math.MaxInt64, math.MinInt64, -2, false, true}, {math.MinInt64, math.MaxInt64, math.MinInt64, math.MaxInt64, false, false},
	} {
		list := []impl.Deal{timed(0, one.begin, one.end), timed(1, one.then, one.last)}
		if a, b := impl.AheadOf(list, 0, 1), impl.AheadOf(list, 1, 0); a != one.is || b != one.back || impl.AheadOf(list, 0, 0) || impl.AheadOf(list, 1, 1) {
			t.Errorf("%d: %v, %v", i, a, b)
		}
		checkPastOk(t, list, true)
		checkEachAhead(t, list)
	}
}

// Each two numbers of a past, at 0 and at the last one, and such as are not there, below 0 and past the end.
func TestAheadOfEachNumber(t *testing.T) {
	for n := range impl.MaxPast + 1 {
		checkEachAhead(t, pastOf(n))
		back := pastOf(n)
		slices.Reverse(back)
		checkEachAhead(t, back)
		far := pastOf(n)
		for i := range far {
			far[i].End += int64(i % 5 * 3)
		}
		checkEachAhead(t, far)
	}
	checkEachAhead(t, nil)
}

// The Task, the call and what was replied are not asked, nor whether it is a past.
func TestAheadOfAsksNothingElse(t *testing.T) {
	for n := impl.MaxPast + 1; n < 40; n++ {
		checkEachAhead(t, pastOf(n))
	}
	for _, begin := range manyTimes() {
		for _, end := range manyTimes() {
			list := pastOf(4)
			list[1] = impl.Deal{Task: -1, Call: impl.Call{Code: 3, Elem: -1}, Begin: begin, End: end, Reply: 5, Out: -1}
			checkEachAhead(t, list)
		}
	}
}

// Promise 14: two tasks, each Begin and End of both.
func TestAheadOfEachTimes(t *testing.T) {
	for times := range 625 {
		d, e := timed(0, int64(times%5), int64(times/5%5)), timed(1, int64(times/25%5), int64(times/125))
		checkEachAhead(t, []impl.Deal{d, e})
		checkPast(t, dealtWorld(d, e))
	}
}

// What was, told out one by one.
func TestPastOf(t *testing.T) {
	checkPastIs(t, dealtWorld())
	checkPastIs(t, dealtWorld(timed(5, 0, 1)), 5)
	checkPastIs(t, dealtWorld(timed(5, 0, 0)))
	checkPastIs(t, dealtWorld(timed(5, 1, 0)))
	checkPastIs(t, dealtWorld(timed(5, 0, impl.MaxNow)), 5)
	checkPastIs(t, dealtWorld(timed(0, 4, 5), timed(1, 2, 7), timed(2, 3, 9)), 1, 2, 0)
	checkPastIs(t, dealtWorld(timed(0, 4, 9), timed(1, 4, 5), timed(2, 3, 4), timed(3, 4, 7), timed(4, 3, 9)), 2, 4, 0, 1, 3)
	checkPastIs(t, dealtWorld(timed(0, 9, 9), timed(1, 4, 5), timed(2, 3, 3), timed(3, 1, 2), timed(4, 8, 1)), 3, 1)
}

// numbered lists the numbers of the last MaxPast of n, and the same from behind.
func numbered(n int) (numbers, back []int) {
	for i := max(0, n-14); i < n; i++ {
		numbers = append(numbers, i)
	}
	back = slices.Clone(numbers)
	slices.Reverse(back)
	return numbers, back
}

// Of MaxPast all stay, and of one more, and of more, the last MaxPast: the last ones in the list, be
// they those that began last, or first, or all at once.
func TestPastOfTheLastOnes(t *testing.T) {
	for _, n := range []int{0, 1, 2, 12, 13, 14, 15, 16, 27, 28, 29, 300, impl.MaxDeals - 1, impl.MaxDeals} {
		var rising, falling, alike []impl.Deal
		for i := range n {
			rising = append(rising, timed(i, int64(i), int64(i)+1))
			falling = append(falling, timed(i, int64(5000-i), int64(6000-i)))
			alike = append(alike, timed(i, 7, int64(9000-i)))
		}
		numbers, back := numbered(n)
		checkPastIs(t, dealtWorld(rising...), numbers...)
		checkPastIs(t, dealtWorld(falling...), back...)
		checkPastIs(t, dealtWorld(alike...), numbers...)
	}
}

// Those that take no time don't count, be their End their Begin or less, among the others, ahead of
// them or behind them: the last MaxPast of the others stay.
func TestPastOfPassesOverWhatTookNoTime(t *testing.T) {
	for _, n := range []int{0, 1, 2, 13, 14, 15, 16, 30} {
		for less := range int64(3) {
			for _, some := range []int{1, 2, 13, 14, 15, 60} {
				none := slices.Repeat([]impl.Deal{timed(999, 40, 40-less)}, some)
				var deals, among []impl.Deal
				for i := range n {
					deals = append(deals, timed(i, int64(100-i), 200))
					among = append(append(among, deals[i]), none[:min(some, 20)]...)
				}
				_, back := numbered(n)
				checkPastIs(t, dealtWorld(slices.Concat(none, deals)...), back...)
				checkPastIs(t, dealtWorld(slices.Concat(deals, none)...), back...)
				checkPastIs(t, dealtWorld(slices.Concat(none, deals, none)...), back...)
				checkPastIs(t, dealtWorld(among...), back...)
				checkPastIs(t, dealtWorld(slices.Concat(none, among)...), back...)
				checkPastIs(t, dealtWorld(none...))
			}
		}
	}
}

// Those that began at once stay in their order: of four Deals each Begin, and each End that is less,
// the same, or more.
func TestPastOfEachOrder(t *testing.T) {
	const kinds = 9
	for set := range kinds * kinds * kinds * kinds {
		var deals []impl.Deal
		for i := range 4 {
			begin := int64(1 + set%3)
			deals = append(deals, timed(i, begin, begin-1+int64(set/3%3)))
			set /= kinds
		}
		checkPast(t, dealtWorld(deals...))
	}
}

// Of as many as stay, each Begin is that of some others, in an order that is thrown.
func TestPastOfAsTheyAreThrown(t *testing.T) {
	for seed := range 400 {
		d := dice(seed + 14)
		n, begins := 5+d.under(40), 1+d.under(20)
		var deals []impl.Deal
		for i := range n {
			begin := int64(1 + d.under(begins))
			deals = append(deals, timed(i, begin, begin-1+int64(d.under(9))))
		}
		checkPast(t, dealtWorld(deals...))
	}
}

// A Begin and an End are at the ends of their range, and at those of the world's Now.
func TestPastOfAtEachNow(t *testing.T) {
	for _, now := range []int64{0, 1, 2, 17, impl.MaxNow - 1, impl.MaxNow} {
		var deals []impl.Deal
		times := []int64{0, min(1, now), max(0, now-1), now}
		for i, begin := range times {
			for k, end := range times {
				deals = append(deals, timed(4*i+k, begin, end))
			}
		}
		w := dealtWorld(deals...)
		w.Now = now
		checkPast(t, w)
		slices.Reverse(w.Deals)
		checkPast(t, w)
	}
}

// What the hands and the channel are is not asked, but that they are right.
func TestPastOfAsksNothingElse(t *testing.T) {
	want := checkPast(t, dealtWorld(pastOf(9)...))
	for _, w := range stopWorlds(t) {
		for len(w.Hands) < impl.MaxTasks {
			w.Hands = append(slices.Clone(w.Hands), impl.Hand{})
		}
		w.Deals, w.Now = pastOf(9), max(w.Now, 40)
		if past := checkPast(t, w); !slices.Equal(past, want) {
			t.Fatalf("%+v\nnot %+v", past, want)
		}
	}
}

// Who began first ended last: he is among the last ones, and comes first.
func TestPastOfALongDeal(t *testing.T) {
	for cap := int64(1); cap <= impl.MaxCap; cap++ {
		for pairs := range 15 {
			w, _ := impl.NewWorld(cap, 2)
			w, _ = impl.Asked(w, 0, callOf(500))
			for n := range pairs {
				w = doneIn(t, w, 1, callOf(int64(n)+1))
				w = doneIn(t, w, 1, aRecv)
				checkPlayed(t, w)
			}
			w, _ = impl.Alone(w, 0, impl.MaxNow)
			past := checkPlayed(t, w)
			if d := past[0]; d.Task != 0 || d.Begin != 1 || d.End != w.Now || len(past) != min(1+2*pairs, 14) {
				t.Fatalf("%d pairs: %+v", pairs, past)
			}
			for i := range past { // he is ahead of nobody, and nobody of him
				if impl.AheadOf(past, 0, int64(i)) || impl.AheadOf(past, int64(i), 0) {
					t.Fatalf("%d pairs: %d and he: %+v", pairs, i, past)
				}
			}
		}
	}
}

// Promise 14: who sends and receives alone has a past in which each one is ahead of all later ones.
func TestPastOfOneAlone(t *testing.T) {
	for cap := int64(0); cap <= impl.MaxCap; cap++ {
		for tasks := int64(1); tasks <= impl.MaxTasks; tasks++ {
			w, _ := impl.NewWorld(cap, tasks)
			for n := int64(0); cap > 0 && n < 20; n++ {
				w = doneIn(t, w, n%tasks, callOf((n+1)%2*(n+1))) // sends, and receives it then
				past := checkPlayed(t, w)
				for i := range past {
					for k := range past {
						if is := impl.AheadOf(past, int64(i), int64(k)); is != (i < k) {
							t.Fatalf("%d ahead of %d: %v\npast %+v", i, k, is, past)
						}
					}
				}
			}
			checkPlayed(t, w)
		}
	}
}

// pastTurns goes through all orders in which tasks begin and go on alone.
type pastTurns struct {
	t     *testing.T
	calls int // of each task, in turn to send and to receive
	ends  int
	pairs map[[2]bool]int // how often one of two was ahead of the other one, or the other one of him
}

func (u *pastTurns) inAnyOrder(w impl.World, asked []int) {
	past := checkPlayed(u.t, w)
	went := false
	for who, h := range w.Hands {
		switch {
		case h.At != impl.AtRest && !waitsIn(w, int64(who)):
			x, _ := impl.Alone(w, int64(who), impl.MaxNow)
			u.inAnyOrder(x, asked)
			went = true
		case h.At == impl.AtRest && asked[who] < u.calls:
			x, _ := impl.Asked(w, int64(who), callOf(int64((who+asked[who])%2*(who+1))))
			more := slices.Clone(asked)
			more[who]++
			u.inAnyOrder(x, more)
			went = true
		}
	}
	if went {
		return
	}
	u.ends++
	for i := range past {
		for k := range past[:i] {
			u.pairs[[2]bool{impl.AheadOf(past, int64(k), int64(i)), impl.AheadOf(past, int64(i), int64(k))}]++
		}
	}
}

// Promise 14: some tasks begin and go on alone in every order, at once and one behind the other.
func TestPastOfWhoBeginsInAnyOrder(t *testing.T) {
	for _, one := range []struct{ cap, tasks, calls int }{{0, 2, 3}, {1, 2, 3}, {4, 2, 3}, {0, 3, 2}, {1, 3, 2}, {3, 4, 1}} {
		u := pastTurns{t: t, calls: one.calls, pairs: map[[2]bool]int{}}
		w, _ := impl.NewWorld(int64(one.cap), int64(one.tasks))
		u.inAnyOrder(w, make([]int, one.tasks))
		// Nobody is ahead of who began before him.
		if u.ends < 20 || len(u.pairs) != 2 || min(u.pairs[[2]bool{}], u.pairs[[2]bool{true, false}]) < 100 {
			t.Errorf("%+v: %d ends, %v", one, u.ends, u.pairs)
		}
	}
}

// Promise 14: senders and receivers are asked and stepped by turns, in every order, and stopped
// whenever they are parked.
func TestPastInAnyOrder(t *testing.T) {
	s := callOf(5)
	for _, one := range []struct {
		cap, most int64
		calls     [][]impl.Call
	}{
		{0, 3, [][]impl.Call{{s}, {aRecv}}}, {1, 3, [][]impl.Call{{s}, {aRecv}}}, {1, 3, [][]impl.Call{{s, aRecv}, {s}}},
		{0, 3, [][]impl.Call{{s, aRecv}, {aRecv, s}}}, {1, 3, [][]impl.Call{{s, s}, {aRecv, aRecv}}}, {0, 2, [][]impl.Call{{s}, {aRecv}, {s}}},
	} {
		stopped := 0
		u := worldTurns{t: t, calls: one.calls, seen: map[worldMoment]bool{}, stops: true, most: one.most}
		u.each = func(w impl.World) {
			for _, d := range checkPlayed(t, w) {
				if d.Reply == impl.RpStopped {
					stopped++
				}
			}
		}
		w, _ := impl.NewWorld(one.cap, int64(len(one.calls)))
		u.inAnyOrder(w, make([]int, len(one.calls)), make([]int64, len(one.calls)))
		if u.ends < 2 || stopped < 10 {
			t.Errorf("%+v: %d ends of %d, %d were stopped", one, u.ends, len(u.seen), stopped)
		}
	}
}

// Promise 14: each cap and each number of tasks, with turns as they are thrown, and so many that not all stay.
func TestPastAsTurnsAreThrown(t *testing.T) {
	replies, cut, moved := map[int64]int{}, 0, 0
	for seed := range 60 {
		turns := 150
		if seed%5 == 0 {
			turns = 700
		}
		for _, w := range thrownWorlds(t, int64(seed%4), int64(seed%6)+1, seed+1400, turns) {
			past := checkPlayed(t, w)
			if len(w.Deals) > 14 {
				cut++
			}
			if !slices.Equal(past, w.Deals[max(0, len(w.Deals)-14):]) {
				moved++ // who began later ended first
			}
			for _, d := range past {
				replies[d.Reply]++
			}
		}
	}
	if len(replies) != 4 || min(cut, moved) < 500 {
		t.Errorf("not all were come by: %v, %d were cut, %d in another order", replies, cut, moved)
	}
}

// lastingWorlds lists worlds each of whose Deals took time. The last one meets every limit exactly.
func lastingWorlds(t *testing.T) []impl.World {
	t.Helper()
	one, _ := impl.NewWorld(0, 1)
	one.Deals, one.Now = pastOf(1), 2
	settled, _ := impl.Settled(askedWorld(t, 1, 5, 6, 0, 0, 0), impl.MaxNow)
	full := fullWorld()
	for i := range full.Deals {
		full.Deals[i].Begin, full.Deals[i].End = int64(impl.MaxDeals-i), impl.MaxNow
	}
	return []impl.World{one, settled, dealtWorld(pastOf(14)...), dealtWorld(pastOf(40)...), full}
}

// Promise 19: a world that is not right has no past, whatever its Deals are.
func TestPastOfWrongWorlds(t *testing.T) {
	check := func(name string, w impl.World) {
		t.Helper()
		before := cloneWorld(w)
		if past := impl.PastOf(w); len(past) > 0 {
			t.Fatalf("%s: %+v", name, past)
		}
		if !sameWorld(w, before) {
			t.Fatalf("%s: it was written to", name)
		}
	}
	for i, w := range lastingWorlds(t) {
		if past := checkPast(t, w); len(past) != min(len(w.Deals), 14) {
			t.Fatalf("world %d: %+v", i, past)
		}
	}
	for name, w := range wrongsOf(lastingWorlds(t)[:4]) {
		check(name, w)
	}
	for _, w := range lastingWorlds(t)[:4] {
		for k, d := range wrongDeals(w) { // none of those that would stay, where there are as many
			w.Deals = append([]impl.Deal{d}, w.Deals...)
			check(fmt.Sprint("deal ", k, " ahead of the others"), w)
			w.Deals = w.Deals[1:]
		}
	}
}

// Promise 19: each list is as long as it may be, and no longer; and no shorter.
func TestPastOfListLengths(t *testing.T) {
	for hands := range 20 {
		for _, deals := range []int{0, 1, 13, 14, 15, impl.MaxDeals, impl.MaxDeals + 1, 1 << 16} {
			w := impl.World{Chan: impl.NewChan(1), Hands: make([]impl.Hand, hands), Now: 1}
			w.Deals = slices.Repeat([]impl.Deal{timed(0, 0, 1)}, deals)
			want := 0
			if hands >= 1 && hands <= 6 && deals <= 1000 {
				want = min(deals, 14)
			}
			if past := impl.PastOf(w); len(past) != want {
				t.Fatalf("%d hands, %d deals: %d are past", hands, deals, len(past))
			}
		}
	}
}

// Promise 19: whatever is given, there is an answer.
func TestPastAnswersAtEveryArgument(t *testing.T) {
	for _, n := range manyTimes() {
		for _, change := range []func(d *impl.Deal){
			func(d *impl.Deal) { d.Task = n }, func(d *impl.Deal) { d.Call.Code = n }, func(d *impl.Deal) { d.Call.Elem = n },
			func(d *impl.Deal) { d.Begin = n }, func(d *impl.Deal) { d.End = n }, func(d *impl.Deal) { d.Reply = n },
			func(d *impl.Deal) { d.Out = n },
		} {
			for _, right := range lastingWorlds(t) {
				for _, at := range []int{0, len(right.Deals) - 1} {
					w := cloneWorld(right)
					change(&w.Deals[at])
					if impl.WorldOk(w) {
						checkPast(t, w)
					} else if past := impl.PastOf(w); len(past) > 0 {
						t.Fatalf("%+v: %+v", w.Deals[at], past)
					}
					list := w.Deals[max(0, len(w.Deals)-14):]
					d := w.Deals[at]
					ok := d.End > d.Begin && impl.ReplyOk(d.Call, d.Reply) || len(w.Deals) > 14 && at == 0
					checkPastOk(t, list, ok)
					checkEachAhead(t, list)
				}
			}
		}
		for _, change := range []func(w *impl.World){
			func(w *impl.World) { w.Now = n }, func(w *impl.World) { w.Chan.Cap = n }, func(w *impl.World) { w.Chan.Sent = n },
			func(w *impl.World) { w.Hands[0].At = n }, func(w *impl.World) { w.Hands[0].Begin = n },
		} {
			w := dealtWorld(pastOf(14)...)
			change(&w)
			if past := impl.PastOf(w); impl.WorldOk(w) != (len(past) == 14) {
				t.Fatalf("%d are past of %+v", len(past), w)
			}
		}
	}
	if past := impl.PastOf(impl.World{}); len(past) > 0 {
		t.Fatal(past)
	}
}

// pastWorlds are worlds of each kind, with less Deals than stay, as many and more.
func pastWorlds(t *testing.T) []impl.World {
	t.Helper()
	return append(append(stopWorlds(t), lastingWorlds(t)...), dealtWorld(), dealtWorld(timed(3, 1, 1)), dealtWorld(pastOf(15)...))
}

// Promise 19: a past is new each time, and neither it nor the room behind it is the world's.
func TestPastIsNewMemory(t *testing.T) {
	for i, w := range pastWorlds(t) {
		narrow, wide := widened(w)
		before, want := cloneWorld(wide), pastBy(w)
		first, second := impl.PastOf(narrow), impl.PastOf(narrow)
		if !slices.Equal(first, want) || len(impl.PastOf(wide)) > 0 {
			t.Fatalf("world %d: what is behind it is asked: %+v", i, first)
		}
		fill(first, impl.Deal{Task: -7})
		if !slices.Equal(second, want) || !slices.Equal(impl.PastOf(narrow), want) {
			t.Fatalf("world %d: two lists share their memory: %+v", i, second)
		}
		fill(second, impl.Deal{Task: -7})
		if !reflect.DeepEqual(wide, before) {
			t.Fatalf("world %d was written to", i)
		}
	}
}

// Promise 19: a past stays, and so does the room behind it, of which nothing is asked.
func TestPastStays(t *testing.T) {
	wrong := impl.Deal{Task: -7, End: -9}
	for n := range 30 {
		wide := append(pastOf(n), wrong, wrong)
		narrow, before := wide[:n], slices.Clone(wide)
		checkPastOk(t, narrow, n <= 14)
		checkPastOk(t, wide, false)
		checkEachAhead(t, narrow)
		if n > 0 && (impl.AheadOf(narrow, int64(n), 0) || !impl.AheadOf(wide, int64(n), 0)) {
			t.Fatalf("what is behind %d Deals is asked", n)
		}
		if !slices.Equal(wide, before) {
			t.Fatalf("%d Deals were written to", n)
		}
	}
}

// Promise 19: what was answered before has no say in an answer, and some may ask at once.
func TestPastKeepsNothing(t *testing.T) {
	worlds := pastWorlds(t)
	done := make(chan string)
	for range 4 {
		go func() {
			wrong := ""
			for range 5 {
				for i, w := range worlds {
					past := impl.PastOf(w)
					if !slices.Equal(past, pastBy(w)) || !impl.PastOk(past) || impl.AheadOf(past, 0, 0) {
						wrong = fmt.Sprint("world ", i, " is answered another way")
					}
				}
			}
			done <- wrong
		}()
	}
	for range 4 {
		if wrong := <-done; wrong != "" {
			t.Error(wrong)
		}
	}
}
