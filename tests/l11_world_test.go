package tests

import (
	"fmt"
	"math"
	"reflect"
	"slices"
	"testing"

	"loop.example/g00794/impl"
)

// sameWorld takes nil and an empty list for the same.
func sameWorld(a, b impl.World) bool {
	return sameChan(a.Chan, b.Chan) && slices.Equal(a.Hands, b.Hands) && slices.Equal(a.Deals, b.Deals) && a.Now == b.Now
}

func isZero(w impl.World) bool { return sameWorld(w, impl.World{}) }

func cloneWorld(w impl.World) impl.World {
	w.Chan = cloneChan(w.Chan)
	w.Hands = slices.Clone(w.Hands)
	w.Deals = slices.Clone(w.Deals)
	return w
}

// replied lists what may be replied, each with its Call.
func replied() []impl.Deal {
	return []impl.Deal{
		{Call: aSend, Reply: impl.RpOk}, {Call: aRecv, Reply: impl.RpValue}, {Call: aSend, Reply: impl.RpStopped},
		{Call: aRecv, Reply: impl.RpStopped}, {Call: aSend, Reply: impl.RpOver}, {Call: aRecv, Reply: impl.RpOver},
		{Call: impl.Call{Code: impl.OpSend, Elem: impl.MaxElem}, Reply: impl.RpOk}, {Call: impl.Call{Code: impl.OpSend}, Reply: impl.RpOk},
	}
}

// someDeals lists right Deals of those tasks, up to that Now; each number is met at both of its ends.
func someDeals(n, tasks int, now int64) []impl.Deal {
	var list []impl.Deal
	kinds := replied()
	for i := range n {
		d := kinds[i%len(kinds)]
		d.Task = int64(i % tasks)
		d.Begin, d.End, d.Out = int64(i%2)*now, int64(i/2%2)*now, int64(i/4%2)*impl.MaxElem
		list = append(list, d)
	}
	return list
}

// fullWorld is right and meets every limit exactly.
func fullWorld() impl.World {
	rest := restHands()[1]
	hands := []impl.Hand{fullHand(), rest, handAt(impl.AtSend, aSend), rest, {}, fullHand()}
	return impl.World{Chan: fullChan(), Hands: hands, Deals: someDeals(impl.MaxDeals, impl.MaxTasks, impl.MaxNow), Now: impl.MaxNow}
}

// busyWorld is right. Its first task is at rest, the second one is at work, and the others wait: one
// to be told, one for who raises the sender of his cell, one for who calls the sender there.
func busyWorld() impl.World {
	c := withCell(busyChan(), 11, impl.Cell{State: impl.CsGrow, Elem: 4, Waiter: 12})
	c = withCell(c, 15, impl.Cell{State: impl.CsCall, Elem: 5, Waiter: 13})
	hands := []impl.Hand{
		handAt(impl.AtRest, impl.Call{}), handAt(impl.AtSend, aSend), handAt(impl.AtPark, aRecv),
		handAt(impl.AtView, aRecv), handAt(impl.AtMeet, aRecv),
	}
	return impl.World{Chan: c, Hands: hands, Deals: someDeals(9, 5, 33), Now: 33}
}

// withHand is the world with that hand at a task.
func withHand(w impl.World, who int, h impl.Hand) impl.World {
	w = cloneWorld(w)
	w.Hands[who] = h
	return w
}

// lateWorld is a busyWorld of those Deals, at that Now.
func lateWorld(deals int, now int64) impl.World {
	w := busyWorld()
	w.Deals, w.Now = someDeals(deals, 5, now), now
	return w
}

// turnOf tells what becomes of a world by a task's step, as chapter 10 tells of the step.
func turnOf(w impl.World, who int64) (impl.World, bool) {
	x, before := cloneWorld(w), w.Hands[who]
	c, h, is := impl.Step(w.Chan, before)
	if !is || w.Now == 20000 {
		return x, false
	}
	if h.At == impl.AtRest {
		if len(w.Deals) == 1000 {
			return x, false
		}
		x.Deals = append(x.Deals, impl.Deal{Task: who, Call: before.Call, Begin: before.Begin, End: w.Now + 1, Reply: h.Reply, Out: h.Out})
	}
	x.Chan, x.Hands[who], x.Now = c, h, w.Now+1
	return x, true
}

// checkStepped asks for just that, and for promise 11.
func checkStepped(t *testing.T, w impl.World, who int64) (impl.World, bool) {
	t.Helper()
	before := cloneWorld(w)
	want, told := turnOf(w, who)
	x, is := impl.Stepped(w, who)
	if is != told || !sameWorld(x, want) {
		t.Fatalf("task %d, %+v: %v\nworld %+v\nnot   %+v, %v", who, w.Hands[who], is, x, want, told)
	}
	if is && x.Now != w.Now+1 || !impl.WorldOk(x) {
		t.Fatalf("task %d of a world at %d: %v\nworld %+v", who, w.Now, is, x)
	}
	if !sameWorld(w, before) {
		t.Fatalf("task %d: it wrote to its argument", who)
	}
	return x, is
}

// askOf tells what becomes of a world by a Call to a task.
func askOf(w impl.World, who int64, c impl.Call) (impl.World, int64) {
	x := cloneWorld(w)
	switch {
	case w.Hands[who].At != impl.AtRest:
		return x, impl.CdBusy
	case !impl.CallOk(c):
		return x, impl.CdUnfit
	case w.Now == 20000:
		return x, impl.CdBusy
	}
	x.Now++
	x.Hands[who] = impl.Hand{At: impl.AtSend, Call: c, Begin: x.Now}
	if c.Code == impl.OpRecv {
		x.Hands[who].At = impl.AtRecv
	}
	return x, impl.CdOk
}

// checkAsked asks for just that, and for promise 11.
func checkAsked(t *testing.T, w impl.World, who int64, c impl.Call) (impl.World, int64) {
	t.Helper()
	before := cloneWorld(w)
	want, code := askOf(w, who, c)
	x, k := impl.Asked(w, who, c)
	if k != code || !sameWorld(x, want) {
		t.Fatalf("task %d, %v: %d\nworld %+v\nnot   %+v, %d", who, c, k, x, want, code)
	}
	if k == impl.CdOk && x.Now != w.Now+1 || !impl.WorldOk(x) {
		t.Fatalf("task %d of a world at %d: %d\nworld %+v", who, w.Now, k, x)
	}
	if !sameWorld(w, before) {
		t.Fatalf("task %d: it wrote to its argument", who)
	}
	return x, k
}

// aloneOf lists the worlds that are come by as a task's steps are made one by one, that ahead of all of them first.
func aloneOf(w impl.World, who int64) []impl.World {
	list := []impl.World{w}
	for w.Hands[who].At != impl.AtRest {
		x, is := impl.Stepped(w, who)
		if !is {
			break
		}
		w = x
		list = append(list, w)
	}
	return list
}

// settledOf lists those that are come by as rounds are made step by step.
func settledOf(w impl.World) []impl.World {
	list := []impl.World{w}
	for went := true; went; {
		went = false
		for who := range w.Hands {
			if w.Hands[who].At == impl.AtRest {
				continue
			}
			if x, is := impl.Stepped(w, int64(who)); is {
				w, went = x, true
			}
		}
		if went {
			list = append(list, w)
		}
	}
	return list
}

// checkCount asks for just that one of those worlds which is come by that often, or for the last one.
func checkCount(t *testing.T, worlds []impl.World, most int64, goesOn func(w impl.World, most int64) (impl.World, int64)) {
	t.Helper()
	w := worlds[0]
	before := cloneWorld(w)
	want := min(most, int64(len(worlds))-1)
	x, n := goesOn(w, most)
	if n != want || !sameWorld(x, worlds[want]) {
		t.Fatalf("%d at most: %d\nworld %+v\nnot   %+v, %d", most, n, x, worlds[want], want)
	}
	if !impl.WorldOk(x) || !sameWorld(w, before) {
		t.Fatalf("%d at most: %d\nworld %+v\nof    %+v", most, n, x, w)
	}
}

func aloneWith(who int64) func(w impl.World, most int64) (impl.World, int64) {
	return func(w impl.World, most int64) (impl.World, int64) { return impl.Alone(w, who, most) }
}

// checkAlone asks for just what is come by step by step, and answers how many steps there were.
func checkAlone(t *testing.T, w impl.World, who, most int64) (impl.World, int64) {
	t.Helper()
	checkCount(t, aloneOf(w, who), most, aloneWith(who))
	x, n := impl.Alone(w, who, most)
	if x.Now != w.Now+n {
		t.Fatalf("task %d, %d steps: from %d to %d", who, n, w.Now, x.Now)
	}
	return x, n
}

// checkSettles asks the same of the rounds.
func checkSettles(t *testing.T, w impl.World, most int64) (impl.World, int64) {
	t.Helper()
	checkCount(t, settledOf(w), most, impl.Settled)
	x, n := impl.Settled(w, most)
	if x.Now < w.Now+n || x.Now > w.Now+n*int64(len(w.Hands)) {
		t.Fatalf("%d rounds: from %d to %d", n, w.Now, x.Now)
	}
	return x, n
}

// checkEachCount asks for each count of steps and of rounds, up to one more than there are, and for MaxNow.
func checkEachCount(t *testing.T, w impl.World) {
	t.Helper()
	check := func(worlds []impl.World, goesOn func(w impl.World, most int64) (impl.World, int64)) {
		for most := range int64(len(worlds)) + 1 {
			checkCount(t, worlds, most, goesOn)
		}
		checkCount(t, worlds, impl.MaxNow, goesOn)
	}
	for who := range int64(len(w.Hands)) {
		check(aloneOf(w, who), aloneWith(who))
	}
	check(settledOf(w), impl.Settled)
}

func TestWorldNumbers(t *testing.T) {
	if impl.MaxTasks != 6 || impl.MaxDeals != 1000 {
		t.Error("a limit is not the document's")
	}
}

// Promise 11: a new world is right, and is at 0.
func TestNewWorld(t *testing.T) {
	for cap := int64(0); cap <= impl.MaxCap; cap++ {
		for tasks := int64(1); tasks <= impl.MaxTasks; tasks++ {
			w, is := impl.NewWorld(cap, tasks)
			want := impl.World{
				Chan:  impl.Chan{Cap: cap, End: cap, Cells: make([]impl.Cell, impl.MaxCells)},
				Hands: make([]impl.Hand, tasks),
			}
			if !is || !sameWorld(w, want) || !impl.WorldOk(w) {
				t.Errorf("cap %d, %d tasks: %v\nworld %+v", cap, tasks, is, w)
			}
			if _, n := impl.Settled(w, impl.MaxNow); n != 0 {
				t.Errorf("cap %d, %d tasks: %d rounds", cap, tasks, n)
			}
		}
	}
}

func TestNewWorldOutOfRange(t *testing.T) {
	caps, counts := []int64{0, 1, impl.MaxCap}, []int64{1, 2, impl.MaxTasks}
	check := func(cap, tasks int64) {
		if w, is := impl.NewWorld(cap, tasks); is || !isZero(w) {
			t.Errorf("cap %d, %d tasks: %v\nworld %+v", cap, tasks, is, w)
		}
	}
	for _, tasks := range append(outOf(impl.MaxTasks), 0) {
		for _, cap := range append(caps, outOf(impl.MaxCap)...) {
			check(cap, tasks)
		}
	}
	for _, cap := range outOf(impl.MaxCap) {
		for _, tasks := range counts {
			check(cap, tasks)
		}
	}
}

// dealPart is one number of a Deal, and how many it may be where there are so many tasks at that Now.
type dealPart struct {
	name string
	most func(w impl.World) int64
	put  func(d *impl.Deal, n int64)
}

func dealParts() []dealPart {
	now := func(w impl.World) int64 { return w.Now }
	return []dealPart{
		{"Task", func(w impl.World) int64 { return int64(len(w.Hands)) - 1 }, func(d *impl.Deal, n int64) { d.Task = n }},
		{"Begin", now, func(d *impl.Deal, n int64) { d.Begin = n }},
		{"End", now, func(d *impl.Deal, n int64) { d.End = n }},
		{"Out", func(impl.World) int64 { return impl.MaxElem }, func(d *impl.Deal, n int64) { d.Out = n }},
	}
}

// wrongDeals lists Deals with just one thing that is not right in that world.
func wrongDeals(w impl.World) []impl.Deal {
	var list []impl.Deal
	for _, right := range someDeals(4, len(w.Hands), w.Now) {
		for _, p := range dealParts() {
			for _, n := range beyond(p.most(w)) {
				d := right
				p.put(&d, n)
				list = append(list, d)
			}
		}
		for _, reply := range wrongOnes(impl.RpOver) {
			d := right
			d.Reply = reply
			list = append(list, d)
		}
		right.Reply = impl.RpOver
		for _, c := range append(wrongCalls(), impl.Call{}) {
			right.Call = c
			list = append(list, right)
		}
	}
	return append(list, impl.Deal{}, impl.Deal{Call: aSend, Reply: impl.RpValue}, impl.Deal{Call: aRecv, Reply: impl.RpOk})
}

// rightWorlds lists worlds with room for more, and such as have none.
func rightWorlds() []impl.World {
	one, _ := impl.NewWorld(0, 1)
	one.Deals = someDeals(1, 1, 0)
	two := impl.World{Chan: fullChan(), Hands: []impl.Hand{handAt(impl.AtPut, aSend), {}}, Now: impl.MaxNow - 1}
	two.Deals = someDeals(1, 2, two.Now)
	return []impl.World{fullWorld(), busyWorld(), one, two}
}

// wrongWorlds lists worlds with just one thing that is not right, by what that is.
func wrongWorlds() map[string]impl.World { return wrongsOf(rightWorlds()) }

// wrongsOf lists what becomes of right worlds, in each of which there is a Deal, by one thing that is not right.
func wrongsOf(worlds []impl.World) map[string]impl.World {
	list := map[string]impl.World{"zero": {}}
	for i, right := range worlds {
		put := func(name string, change func(w *impl.World)) {
			w := cloneWorld(right)
			change(&w)
			list[fmt.Sprint("world ", i, ", ", name)] = w
		}
		for name, c := range wrongChans() {
			put("channel "+name, func(w *impl.World) { w.Chan = c })
		}
		put("no hands", func(w *impl.World) { w.Hands, w.Deals = nil, nil })
		for _, n := range []int{impl.MaxTasks + 1, impl.MaxTasks + 2, 256, 257} {
			put(fmt.Sprint(n, " hands"), func(w *impl.World) { w.Hands = append(w.Hands, make([]impl.Hand, n-len(w.Hands))...) })
		}
		for _, n := range []int{impl.MaxDeals + 1, impl.MaxDeals + 2, 5000} {
			put(fmt.Sprint(n, " deals"), func(w *impl.World) { w.Deals = someDeals(n, len(w.Hands), w.Now) })
		}
		for _, n := range append(beyond(impl.MaxNow), right.Now-1) { // the last one is less than a Begin or an End, or than 0
			put(fmt.Sprint("now ", n), func(w *impl.World) {
				w.Now, w.Deals = n, append(w.Deals[:0:0], impl.Deal{Call: aSend, Reply: impl.RpOk, End: right.Now})
			})
		}
		for _, who := range []int{0, len(right.Hands) / 2, len(right.Hands) - 1} {
			for k, h := range append(wrongHands(), impl.Hand{Begin: right.Now + 1}, impl.Hand{At: 23, Call: aRecv, Begin: right.Now + 1}) {
				put(fmt.Sprint("hand ", who, " ", k), func(w *impl.World) { w.Hands[who] = h })
			}
		}
		for _, at := range []int{0, len(right.Deals) / 2, len(right.Deals) - 1} {
			for k, d := range wrongDeals(right) {
				put(fmt.Sprint("deal ", at, " ", k), func(w *impl.World) { w.Deals[at] = d })
			}
		}
	}
	return list
}

func TestWorldOk(t *testing.T) {
	for i, w := range rightWorlds() {
		before := cloneWorld(w)
		if !impl.WorldOk(w) || !reflect.DeepEqual(w, before) {
			t.Errorf("world %d is refused, or written to", i)
		}
	}
	for name, w := range wrongWorlds() {
		if impl.WorldOk(w) {
			t.Errorf("%s: it is accepted", name)
		}
	}
}

// Each list is as long as it may be, and no longer.
func TestWorldOkListLengths(t *testing.T) {
	for hands := range 20 {
		for _, deals := range []int{0, 1, 500, impl.MaxDeals - 1, impl.MaxDeals, impl.MaxDeals + 1, 1500} {
			w := impl.World{Chan: impl.NewChan(1), Hands: make([]impl.Hand, hands), Deals: someDeals(deals, 1, 0)}
			if ok := impl.WorldOk(w); ok != (hands >= 1 && hands <= 6 && deals <= 1000) {
				t.Errorf("%d hands, %d deals: %v", hands, deals, ok)
			}
		}
	}
	for cells := range 60 {
		for words := range 100 {
			w := impl.World{Chan: impl.Chan{Cells: make([]impl.Cell, cells), Words: make([]int64, words)}, Hands: make([]impl.Hand, 1)}
			if ok := impl.WorldOk(w); ok != (cells == 40 && words <= 80) {
				t.Errorf("%d cells, %d words: %v", cells, words, ok)
			}
		}
	}
}

// Of each number of tasks the last one is there, and the next one is not.
func TestWorldOkTasksOfDeals(t *testing.T) {
	for tasks := 1; tasks <= impl.MaxTasks; tasks++ {
		for task := int64(-2); task < impl.MaxTasks+2; task++ {
			w := impl.World{Chan: impl.NewChan(1), Hands: make([]impl.Hand, tasks)}
			w.Deals = []impl.Deal{{Task: task, Call: aSend, Reply: impl.RpOk}}
			if ok := impl.WorldOk(w); ok != (task >= 0 && task < int64(tasks)) {
				t.Errorf("task %d of %d: %v", task, tasks, ok)
			}
		}
	}
}

// What began or ended did so by now; whether it ended behind its begin is not asked.
func TestWorldOkTimes(t *testing.T) {
	times := []int64{-1, 0, 1, 2, 50, 51, impl.MaxNow - 1, impl.MaxNow, impl.MaxNow + 1}
	in := func(n, most int64) bool { return n >= 0 && n <= most }
	for _, now := range times {
		for _, n := range times {
			rest, work := impl.Hand{Begin: n}, impl.Hand{At: impl.AtPark, Call: aRecv, Begin: n}
			for _, h := range []impl.Hand{rest, work} {
				w := impl.World{Chan: impl.NewChan(1), Hands: []impl.Hand{{}, h, {}}, Now: now}
				if ok := impl.WorldOk(w); ok != (in(now, 20000) && in(n, now)) {
					t.Errorf("now %d, %+v: %v", now, h, ok)
				}
			}
			for _, m := range times {
				w := impl.World{Chan: impl.NewChan(1), Hands: make([]impl.Hand, 2), Now: now}
				w.Deals = []impl.Deal{{Task: 1, Call: aRecv, Begin: n, End: m, Reply: impl.RpValue}}
				if ok := impl.WorldOk(w); ok != (in(now, 20000) && in(n, now) && in(m, now)) {
					t.Errorf("now %d, from %d to %d: %v", now, n, m, ok)
				}
			}
		}
	}
}

// Each Call of a Deal with each Reply, and each Out beside it.
func TestWorldOkReplies(t *testing.T) {
	for _, c := range append(wrongCalls(), impl.Call{}, aSend, aRecv, impl.Call{Code: impl.OpSend, Elem: impl.MaxElem}) {
		for _, reply := range append(wrongOnes(impl.RpOver), allReplies...) {
			for _, out := range []int64{math.MinInt64, -1, 0, 1, impl.MaxElem, impl.MaxElem + 1, 1 << 32} {
				w := impl.World{Chan: impl.NewChan(1), Hands: make([]impl.Hand, 1)}
				w.Deals = []impl.Deal{{Call: c, Reply: reply, Out: out}}
				if ok := impl.WorldOk(w); ok != (impl.ReplyOk(c, reply) && out >= 0 && out <= 999) {
					t.Errorf("%v: reply %d, out %d: %v", c, reply, out, ok)
				}
			}
		}
	}
}

// What is not told is not asked: a task's Deals may overlap and be in any order, and nothing of a
// hand needs to be there.
func TestWorldOkAsksNothingElse(t *testing.T) {
	w, _ := impl.NewWorld(1, 2)
	w.Now = 9
	w.Deals = []impl.Deal{
		{Call: aRecv, Begin: 8, End: 3, Reply: impl.RpValue, Out: 5}, {Call: aRecv, Begin: 2, End: 9, Reply: impl.RpValue, Out: 5},
		{Call: aRecv, Begin: 2, End: 9, Reply: impl.RpStopped, Out: 6},
	}
	for at := int64(impl.AtSend); at <= impl.AtMark; at++ {
		for _, c := range bothCalls {
			h := handAt(at, c)
			h.Begin = 9
			w.Hands[0], w.Hands[1] = h, h
			if !impl.WorldOk(w) {
				t.Errorf("%+v is refused", h)
			}
		}
	}
}

// Who is asked begins with that Call alone at the Now behind it, and nobody else has a part in it.
func TestAsked(t *testing.T) {
	for _, rest := range restHands() {
		for _, c := range []impl.Call{aSend, aRecv, {Code: impl.OpSend}, {Code: impl.OpSend, Elem: impl.MaxElem}} {
			for who := range 5 {
				w := withHand(busyWorld(), who, rest)
				w.Now = max(w.Now, rest.Begin)
				if w.Now == impl.MaxNow {
					continue
				}
				want := cloneWorld(w)
				want.Now = w.Now + 1
				want.Hands[who] = impl.Hand{At: impl.AtSend, Call: c, Begin: w.Now + 1}
				if c.Code == impl.OpRecv {
					want.Hands[who].At = impl.AtRecv
				}
				if x, k := checkAsked(t, w, int64(who), c); k != impl.CdOk || !sameWorld(x, want) {
					t.Fatalf("task %d, %v: %d\nworld %+v", who, c, k, x)
				}
			}
		}
	}
}

// Each number of tasks, and each Now of the ends: the last one that is begun at is MaxNow.
func TestAskedAtEachNow(t *testing.T) {
	for tasks := int64(1); tasks <= impl.MaxTasks; tasks++ {
		for _, now := range []int64{0, 1, 500, impl.MaxNow - 2, impl.MaxNow - 1} {
			for who := range tasks {
				w, _ := impl.NewWorld(tasks%5, tasks)
				w.Now = now
				x, k := checkAsked(t, w, who, aSend)
				if k != impl.CdOk || x.Now != now+1 || x.Hands[who].Begin != now+1 {
					t.Fatalf("%d tasks, now %d: %d\nworld %+v", tasks, now, k, x)
				}
			}
		}
	}
}

// Of several codes it is the one named first, but for that of a Now that is MaxNow, which is behind all.
func TestAskedCodes(t *testing.T) {
	unfit := append(wrongCalls(), impl.Call{})
	for _, now := range []int64{33, impl.MaxNow - 1, impl.MaxNow} {
		w := lateWorld(9, now)
		for _, c := range append(unfit, aSend, aRecv) {
			want := int64(impl.CdOk)
			switch {
			case slices.Contains(unfit, c):
				want = impl.CdUnfit
			case now == impl.MaxNow:
				want = impl.CdBusy
			}
			if x, k := checkAsked(t, w, 0, c); k != want || k != impl.CdOk && !sameWorld(x, w) {
				t.Fatalf("now %d, at rest, %v: %d", now, c, k)
			}
			for who := int64(1); who < 5; who++ {
				if x, k := checkAsked(t, w, who, c); k != impl.CdBusy || !sameWorld(x, w) {
					t.Fatalf("now %d, task %d, %v: %d", now, who, c, k)
				}
			}
		}
	}
}

// At each place but AtRest one is busy.
func TestAskedAtEachPlace(t *testing.T) {
	for at := int64(impl.AtSend); at <= impl.AtMark; at++ {
		for _, mine := range bothCalls {
			w := withHand(busyWorld(), 3, handAt(at, mine))
			for _, c := range append(wrongCalls(), impl.Call{}, aSend, aRecv) {
				if _, k := checkAsked(t, w, 3, c); k != impl.CdBusy {
					t.Fatalf("at %d, %v: %d", at, c, k)
				}
			}
		}
	}
}

// Each place's step, with all that it may find: the Begin stays while it is at work, and is 0 then.
func TestSteppedAtEachPlace(t *testing.T) {
	chans := stepChans()
	for at := int64(impl.AtRest); at <= impl.AtMark; at++ {
		var k kindsOf
		for i, h := range stepHands(at) {
			if at == impl.AtRest {
				h.Call = impl.Call{}
			}
			h.Begin %= 30
			for n := range 8 {
				w := withHand(busyWorld(), i%5, h)
				w.Chan = chans[(i*8+n)%len(chans)]
				x, is := checkStepped(t, w, int64(i%5))
				if begin := x.Hands[i%5].Begin; is && x.Hands[i%5].At == impl.AtRest && begin != 0 || x.Hands[i%5].At != impl.AtRest && begin != h.Begin {
					t.Fatalf("%+v begins at %d", h, begin)
				}
				k.count(is, false)
			}
		}
		if (at > impl.AtRest) != (k.steps > 20) || k.refused < 20 && at != impl.AtSend {
			t.Errorf("at %d: %+v", at, k)
		}
	}
}

// rest is one of the ways to come to rest: the hand ahead of it, and what it is answered.
type rest struct {
	h     impl.Hand
	cell  impl.Cell
	reply int64
	out   int64
}

// taken is at that place with what it took, which has nothing more to do but to let one in at that cell.
func taken(at, grow int64) impl.Hand {
	h := handAt(at, aRecv)
	h.Then, h.Grow = impl.ThRest, grow
	return h
}

// toldAt is at that place, and was called.
func toldAt(at int64, c impl.Call) impl.Hand {
	h := handAt(at, c)
	h.Mine = 1
	return h
}

// rests lists them in the channel of busyWorld, with that cell at 11; those that need one with no more room come behind.
func rests() (list, full []rest) {
	pull := taken(impl.AtPull, 22)
	pull.Seen = impl.CsNone
	list = []rest{
		{putHand(impl.CsNone, 11, 12, 0), impl.Cell{Elem: 4}, impl.RpOk, 0},
		{putHand(impl.CsIn, 11, 0, 0), impl.Cell{State: impl.CsIn, Elem: 4}, impl.RpOk, 0},
		{handAt(impl.AtDone, aSend), impl.Cell{State: impl.CsRecv}, impl.RpOk, 0},
		{taken(impl.AtFar, 39), impl.Cell{}, impl.RpValue, 18},
		{taken(impl.AtMeet, 7), impl.Cell{}, impl.RpValue, 18},
		{pull, impl.Cell{}, impl.RpValue, 18},
		{taken(impl.AtKeep, 15), impl.Cell{}, impl.RpValue, 18},
		{toldAt(impl.AtPark, aSend), impl.Cell{}, impl.RpOk, 0},
		{toldAt(impl.AtFetch, aRecv), impl.Cell{State: impl.CsDone, Elem: 456}, impl.RpValue, 456},
		{toldAt(impl.AtMark, aSend), impl.Cell{State: impl.CsSend}, impl.RpStopped, 0},
		{toldAt(impl.AtMark, aRecv), impl.Cell{State: impl.CsRecv}, impl.RpStopped, 0},
	}
	full = []rest{
		{handAt(impl.AtSend, aSend), impl.Cell{}, impl.RpOver, 0}, {handAt(impl.AtRecv, aRecv), impl.Cell{}, impl.RpOver, 0},
		{putHand(impl.CsNone, 11, 0, 0), impl.Cell{}, impl.RpOver, 0}, {takeHand(impl.CsNone, 11, 0), impl.Cell{}, impl.RpOver, 0},
		{taken(impl.AtGrow, 15), impl.Cell{}, impl.RpValue, 18},
	}
	return list, full
}

// restWorlds lists, for each of those, the world in which a task will be at rest by its next step, and which task that is.
func restWorlds(deals int, now int64) (worlds []impl.World, who []int64, kinds []rest) {
	list, full := rests()
	for i, r := range append(list, full...) {
		w := withHand(lateWorld(deals, now), i%5, r.h)
		if i >= len(list) {
			w.Chan = fullChan()
		}
		w.Chan = withCell(w.Chan, 11, r.cell)
		worlds, who, kinds = append(worlds, w), append(who, int64(i%5)), append(kinds, r)
	}
	return worlds, who, kinds
}

// Who comes to rest leaves a Deal behind the others: with its Call and its Begin, and with what it is answered by now.
func TestSteppedComesToRest(t *testing.T) {
	for _, deals := range []int{0, 1, 9, impl.MaxDeals - 1} {
		for _, now := range []int64{33, impl.MaxNow - 1} {
			worlds, tasks, kinds := restWorlds(deals, now)
			for i, w := range worlds {
				who, r := tasks[i], kinds[i]
				x, is := checkStepped(t, w, who)
				want := impl.Deal{Task: who, Call: r.h.Call, Begin: 17, End: now + 1, Reply: r.reply, Out: r.out}
				if !is || len(x.Deals) != deals+1 || x.Deals[deals] != want || x.Hands[who] != impl.Resting(r.reply, r.out) || x.Now != now+1 {
					t.Fatalf("%+v: %v\nworld %+v", r, is, x)
				}
				for other := range int64(5) {
					if other != who && x.Hands[other] != w.Hands[other] {
						t.Fatalf("%+v: task %d has %+v in hand", r, other, x.Hands[other])
					}
				}
			}
		}
	}
}

// Where one Deal more would be too many nobody comes to rest; at MaxNow there is no step at all.
func TestSteppedWithoutRoomForItsDeal(t *testing.T) {
	for _, one := range []struct {
		deals int
		now   int64
	}{{impl.MaxDeals, 33}, {impl.MaxDeals, impl.MaxNow - 1}, {impl.MaxDeals, impl.MaxNow}, {0, impl.MaxNow}, {impl.MaxDeals - 1, impl.MaxNow}} {
		worlds, tasks, _ := restWorlds(one.deals, one.now)
		for i, w := range worlds {
			if x, is := checkStepped(t, w, tasks[i]); is || !sameWorld(x, w) {
				t.Fatalf("%+v: %v\nworld %+v", one, is, x)
			}
			if x, n := checkAlone(t, w, tasks[i], impl.MaxNow); n != 0 || !sameWorld(x, w) {
				t.Fatalf("%+v: %d\nworld %+v", one, n, x)
			}
		}
	}
}

// goingOn lists hands whose next step in busyWorld does not lead to rest.
func goingOn() []impl.Hand {
	return []impl.Hand{
		handAt(impl.AtSend, aSend), handAt(impl.AtLay, aSend), handAt(impl.AtEnd, aSend), handAt(impl.AtCome, aSend),
		putHand(impl.CsNone, 11, 12, 0), handAt(impl.AtCall, aSend), handAt(impl.AtRecv, aRecv), handAt(impl.AtSent, aRecv),
		takeHand(impl.CsNone, 11, 0), handAt(impl.AtWake, aRecv), handAt(impl.AtFinish, aRecv), handAt(impl.AtFail, aRecv),
		handAt(impl.AtGrow, aRecv), handAt(impl.AtFar, aRecv), handAt(impl.AtRaise, aRecv), handAt(impl.AtKeep, aRecv),
		handAt(impl.AtLose, aRecv), toldAt(impl.AtPark, aRecv),
	}
}

// A step that leads to no rest needs no room for a Deal; the last one is that to MaxNow.
func TestSteppedGoesOnUpToTheLimits(t *testing.T) {
	for _, deals := range []int{0, impl.MaxDeals - 1, impl.MaxDeals} {
		for _, now := range []int64{17, 33, impl.MaxNow - 2, impl.MaxNow - 1, impl.MaxNow} {
			for who, h := range goingOn() {
				who %= 5
				x, is := checkStepped(t, withHand(lateWorld(deals, now), who, h), int64(who))
				if is != (now < impl.MaxNow) || is && (x.Now != now+1 || x.Hands[who].Begin != 17 || x.Hands[who].At == h.At) || len(x.Deals) != deals {
					t.Fatalf("%d deals, now %d, %+v: %v\nworld %+v", deals, now, h, is, x)
				}
			}
		}
	}
}

// checkStays asks that the task has no step by any of the functions, and all is as it is.
func checkStays(t *testing.T, w impl.World, who int64) {
	t.Helper()
	if x, is := checkStepped(t, w, who); is || !sameWorld(x, w) {
		t.Fatalf("task %d, %+v: %v\nworld %+v", who, w.Hands[who], is, x)
	}
	for _, most := range []int64{0, 1, 5, impl.MaxNow} {
		if x, n := checkAlone(t, w, who, most); n != 0 || !sameWorld(x, w) {
			t.Fatalf("task %d, %+v: %d\nworld %+v", who, w.Hands[who], n, x)
		}
	}
	for i := range w.Hands { // all others are at rest
		if int64(i) != who {
			w = withHand(w, i, impl.Hand{})
		}
	}
	for _, most := range []int64{0, 1, 5, impl.MaxNow} {
		if x, n := checkSettles(t, w, most); n != 0 || !sameWorld(x, w) {
			t.Fatalf("%+v alone: %d rounds\nworld %+v", w.Hands[who], n, x)
		}
	}
}

// Who rests has no step, nor has who waits, nor who is where the chapters tell of none.
func TestSteppedStays(t *testing.T) {
	for who := range 5 {
		for _, h := range restHands() {
			h.Begin = min(h.Begin, 33)
			checkStays(t, withHand(busyWorld(), who, h), int64(who))
		}
		for _, h := range []impl.Hand{
			handAt(impl.AtPark, aRecv), handAt(impl.AtPark, aSend), handAt(impl.AtView, aRecv), handAt(impl.AtMeet, aRecv), // who wait
			handAt(impl.AtSend, aRecv), handAt(impl.AtRecv, aSend), handAt(impl.AtFetch, aSend), {At: impl.AtPark, Call: aSend},
			putHand(impl.CsDone, 11, 0, 0), takeHand(impl.CsDone, 11, 0), handAt(impl.AtPull, aRecv), handAt(impl.AtLook, aSend),
		} {
			checkStays(t, withHand(busyWorld(), who, h), int64(who))
		}
	}
}

// worldTurns are those of tasks which each have Calls to be asked, one behind the other.
type worldTurns struct {
	t     *testing.T
	calls [][]impl.Call
	most  int64              // who takes a number from here on is passed over
	stops bool               // may each one who is parked be stopped at any time?
	each  func(w impl.World) // what is asked of each world that is come by, if anything
	seen  map[worldMoment]bool
	ends  int
}

// worldMoment tells worlds apart but for their times.
type worldMoment struct {
	moment
	asked [5]int
}

func worldMomentOf(w impl.World, asked []int) worldMoment {
	hands := slices.Clone(w.Hands)
	for i := range hands {
		hands[i].Begin = 0
	}
	m := worldMoment{moment: momentOf(w.Chan, hands)}
	copy(m.asked[:], asked)
	return m
}

// inAnyOrder has each task asked, or stepped, that can be, and tells apart where nobody can go on.
func (u *worldTurns) inAnyOrder(w impl.World, asked []int, begins []int64) {
	m := worldMomentOf(w, asked)
	if u.seen[m] || w.Chan.Sent > u.most || w.Chan.Got > u.most {
		return
	}
	u.seen[m] = true
	if u.each != nil {
		u.each(w)
	}
	went := false
	for who := range w.Hands {
		h := w.Hands[who]
		switch {
		case h.At != impl.AtRest:
			if x, is := checkStepped(u.t, w, int64(who)); is {
				checkDeal(u.t, w, x, int64(who), u.calls[who][asked[who]-1], begins[who])
				checkHeeds(u.t, w, x, int64(who))
				u.inAnyOrder(x, asked, begins)
				went = true
			}
			if x, is := checkStopped(u.t, w, int64(who)); u.stops && is {
				u.inAnyOrder(x, asked, begins)
				went = true
			}
		case asked[who] < len(u.calls[who]):
			x, k := checkAsked(u.t, w, int64(who), u.calls[who][asked[who]])
			if k != impl.CdOk {
				u.t.Fatalf("task %d is not asked: %d\nworld %+v", who, k, w)
			}
			more, then := slices.Clone(asked), slices.Clone(begins)
			more[who], then[who] = more[who]+1, x.Now
			u.inAnyOrder(x, more, then)
			went = true
		}
	}
	if !went {
		u.ends++
		checkDealsOfAll(u.t, w, u.calls, asked)
	}
}

// checkDeal asks for one more Deal just where the task came to rest: of that Call, which began then.
func checkDeal(t *testing.T, w, x impl.World, who int64, c impl.Call, begin int64) {
	t.Helper()
	n := len(w.Deals)
	if !slices.Equal(x.Deals[:min(n, len(x.Deals))], w.Deals) {
		t.Fatalf("a Deal is lost: %+v\nnot %+v", x.Deals, w.Deals)
	}
	h := x.Hands[who]
	if h.At != impl.AtRest {
		if len(x.Deals) != n || h.Begin != begin || h.Call != c {
			t.Fatalf("task %d at work: %+v, %+v", who, h, x.Deals)
		}
		return
	}
	want := impl.Deal{Task: who, Call: c, Begin: begin, End: x.Now, Reply: h.Reply, Out: h.Out}
	if len(x.Deals) != n+1 || x.Deals[n] != want || h != impl.Resting(want.Reply, want.Out) || !impl.ReplyOk(c, want.Reply) {
		t.Fatalf("task %d at rest: %+v, %+v\nnot %+v", who, h, x.Deals, want)
	}
}

// checkDealsOfAll asks for a Deal of each Call that is done, in each task's order, and that what was
// sent was received or is kept, each once.
func checkDealsOfAll(t *testing.T, w impl.World, calls [][]impl.Call, asked []int) {
	t.Helper()
	done := make([]int, len(calls))
	var sent, got []int64
	ended := int64(0)
	for _, d := range w.Deals {
		if done[d.Task] >= asked[d.Task] || d.Call != calls[d.Task][done[d.Task]] || d.End <= ended || d.Begin >= d.End {
			t.Fatalf("%+v of %+v", d, w.Deals)
		}
		done[d.Task]++
		ended = d.End
		switch d.Reply {
		case impl.RpOk:
			sent = append(sent, d.Call.Elem)
		case impl.RpValue:
			got = append(got, d.Out)
		}
	}
	for who, h := range w.Hands {
		if work := h.At != impl.AtRest; work != (done[who] < asked[who]) || work && h.At != impl.AtPark {
			t.Fatalf("task %d did %d of %d: %+v", who, done[who], asked[who], h)
		}
	}
	all := append(got, impl.KeptIn(w.Chan)...)
	slices.Sort(sent)
	slices.Sort(all)
	if !slices.Equal(sent, all) {
		t.Fatalf("%v were sent, %v received or kept\nworld %+v", sent, all, w)
	}
}

// Promise 11: tasks are asked and stepped by turns, in every order; each world is right, and one later.
func TestWorldsInAnyOrder(t *testing.T) {
	send := func(e int64) impl.Call { return impl.Call{Code: impl.OpSend, Elem: e} }
	for _, one := range []struct {
		cap, most int64
		stops     bool
		calls     [][]impl.Call
	}{
		{2, 3, false, [][]impl.Call{{send(5), aRecv, aRecv}}},
		{0, 3, true, [][]impl.Call{{send(5)}, {aRecv}}}, {1, 3, true, [][]impl.Call{{send(5)}, {aRecv}}},
		{4, 3, true, [][]impl.Call{{send(5), aRecv}, {send(6)}}}, {1, 3, true, [][]impl.Call{{send(5), send(6)}, {aRecv, aRecv}}},
		{0, 2, true, [][]impl.Call{{send(5)}, {aRecv}, {send(6)}}}, {1, 2, false, [][]impl.Call{{aRecv}, {send(5)}, {send(6)}}},
	} {
		u := worldTurns{t: t, calls: one.calls, seen: map[worldMoment]bool{}, stops: one.stops, most: one.most}
		w, _ := impl.NewWorld(one.cap, int64(len(one.calls)))
		u.inAnyOrder(w, make([]int, len(one.calls)), make([]int64, len(one.calls)))
		if u.ends == 0 || len(one.calls) > 1 && u.ends < 3 {
			t.Errorf("%+v: %d ends of %d", one, u.ends, len(u.seen))
		}
	}
}

// thrownWorlds lists the worlds that are come by as turns are thrown: one of the tasks is asked, or
// stepped, or stopped.
func thrownWorlds(t *testing.T, cap, tasks int64, seed, turns int) []impl.World {
	t.Helper()
	w, _ := impl.NewWorld(cap, tasks)
	d := dice(seed)
	calls, begins := make([]impl.Call, tasks), make([]int64, tasks)
	var list []impl.World
	for n := range turns {
		who := int64(d.under(int(tasks)))
		switch h := w.Hands[who]; {
		case h.At == impl.AtRest:
			calls[who] = impl.Call{Code: impl.OpSend, Elem: int64(n)}
			if d.under(2) == 0 {
				calls[who] = aRecv
			}
			w, _ = checkAsked(t, w, who, calls[who])
			begins[who] = w.Now
		case h.At == impl.AtPark && d.under(8) == 0:
			w, _ = checkStopped(t, w, who)
		default:
			x, is := checkStepped(t, w, who)
			if is {
				checkDeal(t, w, x, who, calls[who], begins[who])
				checkHeeds(t, w, x, who)
			}
			w = x
		}
		list = append(list, w)
	}
	return list
}

// Promise 11: each cap and each number of tasks, with turns as they are thrown; by then, Alone and
// Settled with each count of steps and of rounds.
func TestWorldsAsTheyAreThrown(t *testing.T) {
	replies := map[int64]int{}
	for seed := range 60 {
		cap, tasks := int64(seed%5), int64(seed%6)+1
		worlds := thrownWorlds(t, cap, tasks, seed, 150)
		for i := seed % 25; i < len(worlds); i += 25 {
			checkEachCount(t, worlds[i])
		}
		last, _ := checkSettles(t, worlds[len(worlds)-1], impl.MaxNow)
		for who, h := range last.Hands {
			if h.At != impl.AtRest && (h.At != impl.AtPark || !impl.StaysAt(last.Chan, h)) {
				t.Fatalf("seed %d: task %d can't go on: %+v\nworld %+v", seed, who, h, last)
			}
		}
		for _, d := range last.Deals {
			replies[d.Reply]++
		}
	}
	if len(replies) != 4 {
		t.Errorf("replied was %v", replies)
	}
}

// Who is asked and stepped by turns, told out: each Deal has its own times, and they are in the order of their ends.
func TestWorldOfASenderAndAReceiver(t *testing.T) {
	w, _ := impl.NewWorld(0, 2)
	w, _ = checkAsked(t, w, 0, aSend)
	for range 6 {
		w, _ = checkStepped(t, w, 0)
	}
	if w.Hands[0].At != impl.AtPark || w.Now != 7 {
		t.Fatalf("not parked: %+v", w)
	}
	checkStays(t, w, 0)
	w, _ = checkAsked(t, w, 1, aRecv)
	for range 6 {
		w, _ = checkStepped(t, w, 1)
	}
	got := impl.Deal{Task: 1, Call: aRecv, Begin: 8, End: 14, Reply: impl.RpValue, Out: 7}
	if !slices.Equal(w.Deals, []impl.Deal{got}) {
		t.Fatalf("received: %+v", w.Deals)
	}
	w, _ = checkStepped(t, w, 0)
	sent := impl.Deal{Task: 0, Call: aSend, Begin: 1, End: 15, Reply: impl.RpOk}
	if !slices.Equal(w.Deals, []impl.Deal{got, sent}) || w.Now != 15 {
		t.Fatalf("sent: %+v", w.Deals)
	}
	w, _ = checkAsked(t, w, 0, aRecv)
	w, _ = checkAlone(t, w, 0, impl.MaxNow)
	w, _ = checkStopped(t, w, 0)
	w, n := checkAlone(t, w, 0, 2)
	gone := impl.Deal{Task: 0, Call: aRecv, Begin: 16, End: w.Now, Reply: impl.RpStopped}
	if n != 2 || !slices.Equal(w.Deals, []impl.Deal{got, sent, gone}) {
		t.Fatalf("stopped: %d, %+v", n, w.Deals)
	}
}

// askedWorld is a new world of that cap in which those are asked, in order; 0 is to receive.
func askedWorld(t *testing.T, cap int64, elems ...int64) impl.World {
	t.Helper()
	w, _ := impl.NewWorld(cap, int64(len(elems)))
	for who, e := range elems {
		w, _ = checkAsked(t, w, int64(who), callOf(e))
	}
	return w
}

// callOf is to send that, or to receive where it is 0.
func callOf(elem int64) impl.Call {
	if elem == 0 {
		return aRecv
	}
	return impl.Call{Code: impl.OpSend, Elem: elem}
}

// In a round each task has one step, in order: they take their numbers so, and rest so.
func TestSettledGoesByRounds(t *testing.T) {
	for tasks := int64(1); tasks <= impl.MaxCap; tasks++ {
		elems := []int64{41, 42, 43, 44}[:tasks]
		w := askedWorld(t, impl.MaxCap, elems...)
		checkEachCount(t, w)
		x, n := impl.Settled(w, impl.MaxNow)
		if n != 6 || x.Now != 7*tasks || !slices.Equal(impl.KeptIn(x.Chan), elems) {
			t.Fatalf("%d tasks: %d rounds\nworld %+v", tasks, n, x)
		}
		for who := range tasks {
			want := impl.Deal{Task: who, Call: impl.Call{Code: impl.OpSend, Elem: elems[who]}, Begin: who + 1, End: 6*tasks + who + 1, Reply: impl.RpOk}
			if x.Deals[who] != want {
				t.Fatalf("%d tasks: %+v", tasks, x.Deals)
			}
		}
		if y, n := checkSettles(t, x, impl.MaxNow); n != 0 || !sameWorld(y, x) { // all are at rest
			t.Fatalf("%d tasks, again: %d rounds", tasks, n)
		}
	}
}

// Some rest before others do, and some wait for ever: the rounds are those in which somebody went on.
func TestSettledTillNobodyGoesOn(t *testing.T) {
	for cap := int64(0); cap <= impl.MaxCap; cap++ {
		for _, elems := range [][]int64{{0}, {0, 0, 0}, {5, 0}, {0, 5}, {5, 6, 7, 8, 9, 10}, {0, 5, 0, 6, 0, 7}, {5, 6, 7, 0, 0, 0}, {5, 6, 7, 8, 9, 0}} {
			w := askedWorld(t, cap, elems...)
			checkEachCount(t, w)
			x, n := impl.Settled(w, impl.MaxNow)
			if n < 5 {
				t.Fatalf("cap %d, %v: %d rounds", cap, elems, n)
			}
			for who := range elems {
				checkStays(t, x, int64(who))
			}
			if y, n := checkSettles(t, x, 1); n != 0 || !sameWorld(x, y) {
				t.Fatalf("cap %d, %v, again: %d rounds", cap, elems, n)
			}
		}
	}
}

// Who waits for another one goes on in the round in which that one has let him, or in the next one
// where he is ahead of him.
func TestSettledWhereOneWaitsForAnother(t *testing.T) {
	w, _ := impl.NewWorld(1, 3)
	w.Now = 9
	w.Chan.Sent, w.Chan.Got, w.Chan.End, w.Chan.Words = 2, 2, 2, []int64{0}
	w.Chan.Cells[1] = impl.Cell{State: impl.CsGrow, Elem: 6, Waiter: 1}
	send := impl.Call{Code: impl.OpSend, Elem: 6}
	w.Hands = []impl.Hand{
		{At: impl.AtPark, Call: send, Cell: 1, Mine: 1, Begin: 1},
		{At: impl.AtRaise, Call: aRecv, Grow: 1, Waiter: 1, Out: 5, Begin: 2},
		{At: impl.AtView, Call: aRecv, Cell: 1, Begin: 3},
	}
	checkStays(t, w, 0)
	checkStays(t, w, 2)
	checkEachCount(t, w)
	x, n := impl.Settled(w, impl.MaxNow)
	want := []impl.Deal{
		{Task: 0, Call: send, Begin: 1, End: 11, Reply: impl.RpOk},
		{Task: 1, Call: aRecv, Begin: 2, End: 12, Reply: impl.RpValue, Out: 5},
		{Task: 2, Call: aRecv, Begin: 3, End: 16, Reply: impl.RpValue, Out: 6},
	}
	if n != 5 || !slices.Equal(x.Deals, want) || x.Now != 16 {
		t.Errorf("%d rounds\nworld %+v", n, x)
	}
}

// Who has many cells to pass by goes on till he is at rest, however many steps there are.
func TestAloneGoesFar(t *testing.T) {
	w, _ := impl.NewWorld(1, 2)
	for i := range impl.MaxCells - 1 {
		w.Chan.Cells[i].State = impl.CsPoison
	}
	w.Chan.Got = impl.MaxCells
	w, _ = checkAsked(t, w, 1, aSend)
	checkEachCount(t, w)
	x, n := impl.Alone(w, 1, impl.MaxNow)
	want := impl.Deal{Task: 1, Call: aSend, Begin: 1, End: 124, Reply: impl.RpOk}
	if n != 39*3+6 || !slices.Equal(x.Deals, []impl.Deal{want}) {
		t.Errorf("%d steps, %+v", n, x.Deals)
	}
	if _, rounds := impl.Settled(w, impl.MaxNow); rounds != n {
		t.Errorf("%d rounds", rounds)
	}
}

// Neither goes on past MaxNow: who has a step left in that round has none.
func TestAloneAndSettledUpToMaxNow(t *testing.T) {
	for left := range int64(40) {
		w := askedWorld(t, 2, 5, 6, 0)
		w.Now = impl.MaxNow - left
		checkEachCount(t, w)
		x, n := impl.Alone(w, 0, impl.MaxNow)
		if n != min(left, 6) || x.Now != w.Now+n {
			t.Errorf("%d left: %d steps, up to %d", left, n, x.Now)
		}
		y, rounds := impl.Settled(w, impl.MaxNow)
		if left <= 18 && (rounds != (left+2)/3 || y.Now != impl.MaxNow) {
			t.Errorf("%d left: %d rounds, up to %d", left, rounds, y.Now)
		}
	}
}

// Where there is room for no more Deals all go on up to the step that would make one.
func TestAloneAndSettledUpToMaxDeals(t *testing.T) {
	for left := range 5 {
		w := askedWorld(t, 4, 5, 6, 7)
		w.Deals, w.Now = someDeals(impl.MaxDeals-left, 3, 50), 50
		x, n := checkAlone(t, w, 1, impl.MaxNow)
		if want := 5 + min(left, 1); n != int64(want) || (x.Hands[1].At == impl.AtRest) != (left > 0) {
			t.Errorf("%d left: %d steps, %+v", left, n, x.Hands[1])
		}
		y, rounds := checkSettles(t, w, impl.MaxNow)
		if want := 5 + min(left, 1); rounds != int64(want) || len(y.Deals) != min(impl.MaxDeals, impl.MaxDeals-left+3) || y.Now != 50+15+int64(min(left, 3)) {
			t.Errorf("%d left: %d rounds up to %d, %d deals", left, rounds, y.Now, len(y.Deals))
		}
		for who, h := range y.Hands {
			if (h.At == impl.AtRest) != (who < left) || h.At != impl.AtRest && h.At != impl.AtPut {
				t.Errorf("%d left: task %d, %+v", left, who, h)
			}
		}
	}
}

// Deals are made by turns up to the last one: each is behind the others, and one can be asked still where there is no room for more.
func TestDealsUpToMaxDeals(t *testing.T) {
	w, _ := impl.NewWorld(1, 2)
	w.Chan.Sent = impl.MaxCells
	var want []impl.Deal
	for n := range int64(impl.MaxDeals) {
		who, is := n%2, false
		w, _ = impl.Asked(w, who, aSend)
		if w, is = impl.Stepped(w, who); !is {
			t.Fatalf("deal %d is not made", n)
		}
		want = append(want, impl.Deal{Task: who, Call: aSend, Begin: 2*n + 1, End: 2*n + 2, Reply: impl.RpOver})
	}
	if !slices.Equal(w.Deals, want) || !impl.WorldOk(w) {
		t.Fatalf("deals %+v", w.Deals)
	}
	w, k := checkAsked(t, w, 0, aSend)
	if k != impl.CdOk {
		t.Fatalf("not asked: %d", k)
	}
	checkStays(t, w, 0)
}

// strays lists such tasks as are not there.
func strays(tasks int) []int64 {
	return append(outOf(int64(tasks)-1), -256, 1<<32+1, math.MaxInt64-1)
}

// No such task goes ahead of all that is told of the rest: of a Call that is not right, of a Now that is
// MaxNow, and of a count out of range.
func TestWorldsOfNoSuchTask(t *testing.T) {
	for tasks := int64(1); tasks <= impl.MaxTasks; tasks++ {
		for _, now := range []int64{0, impl.MaxNow} {
			w, _ := impl.NewWorld(1, tasks)
			w.Now = now
			for _, who := range strays(int(tasks)) {
				for _, c := range append(wrongCalls(), impl.Call{}, aSend, aRecv) {
					if x, k := impl.Asked(w, who, c); k != impl.CdWrong || !isZero(x) {
						t.Errorf("task %d of %d, %v: %d\nworld %+v", who, tasks, c, k, x)
					}
				}
				if x, is := impl.Stepped(w, who); is || !isZero(x) {
					t.Errorf("task %d of %d: %v\nworld %+v", who, tasks, is, x)
				}
				for _, most := range append(beyond(impl.MaxNow), 0, 1, impl.MaxNow) {
					if x, n := impl.Alone(w, who, most); n != -1 || !isZero(x) {
						t.Errorf("task %d of %d, %d at most: %d\nworld %+v", who, tasks, most, n, x)
					}
				}
			}
		}
	}
}

// A count out of range leaves all as it is, whoever could go on.
func TestAloneAndSettledOutOfRange(t *testing.T) {
	worlds := append(rightWorlds(), askedWorld(t, 1, 5, 0), askedWorld(t, 0, 0))
	for _, w := range worlds {
		for _, most := range beyond(impl.MaxNow) {
			before := cloneWorld(w)
			for who := range w.Hands {
				if x, n := impl.Alone(w, int64(who), most); n != -1 || !sameWorld(x, w) {
					t.Errorf("task %d, %d at most: %d\nworld %+v", who, most, n, x)
				}
			}
			if x, n := impl.Settled(w, most); n != -1 || !sameWorld(x, w) || !reflect.DeepEqual(w, before) {
				t.Errorf("%d at most: %d\nworld %+v", most, n, x)
			}
		}
		for _, most := range []int64{0, impl.MaxNow} {
			for who := range w.Hands {
				checkAlone(t, w, int64(who), most)
			}
			checkSettles(t, w, most)
		}
	}
}

// checkWrongWorld says what is answered where a world is not right, whatever else is told of the call.
func checkWrongWorld(t *testing.T, name string, w impl.World) {
	t.Helper()
	before := cloneWorld(w)
	for _, who := range []int64{0, int64(len(w.Hands)) - 1, -1, int64(len(w.Hands))} {
		for _, c := range []impl.Call{aSend, aRecv, {}} {
			if x, k := impl.Asked(w, who, c); k != impl.CdWrong || !isZero(x) {
				t.Fatalf("%s: task %d, %v: %d\nworld %+v", name, who, c, k, x)
			}
		}
		if x, is := impl.Stepped(w, who); is || !isZero(x) {
			t.Fatalf("%s: task %d: %v\nworld %+v", name, who, is, x)
		}
		for _, most := range []int64{-1, 0, impl.MaxNow, impl.MaxNow + 1} {
			if x, n := impl.Alone(w, who, most); n != -1 || !isZero(x) {
				t.Fatalf("%s: task %d, %d at most: %d\nworld %+v", name, who, most, n, x)
			}
		}
	}
	for _, most := range []int64{-1, 0, 1, impl.MaxNow, impl.MaxNow + 1} {
		if x, n := impl.Settled(w, most); n != -1 || !isZero(x) {
			t.Fatalf("%s: %d at most: %d\nworld %+v", name, most, n, x)
		}
	}
	if !sameWorld(w, before) {
		t.Fatalf("%s: it was written to", name)
	}
}

// Promise 19: each world that is not right is answered with the zero one, be all at rest there or at work.
func TestWrongWorlds(t *testing.T) {
	for name, w := range wrongWorlds() {
		checkWrongWorld(t, name, w)
	}
}

// What would mend a world is not done: it was not right before.
func TestWorldsMendNothing(t *testing.T) {
	one, _ := impl.NewWorld(1, 1)
	for _, change := range []func(w *impl.World){
		func(w *impl.World) { w.Now = -1 },                       // one later it would be 0
		func(w *impl.World) { w.Hands[0].Out = 1000 },            // who is asked has it no more
		func(w *impl.World) { w.Hands[0].Begin = 1 },             // and would begin at 1
		func(w *impl.World) { w.Deals[0].End = 1 },               // one later it would be by then
		func(w *impl.World) { w.Deals[0].Begin = 1 },             // likewise
		func(w *impl.World) { w.Hands[0] = toldAt(25, aRecv) },   // who would be at rest by one step, but began at 17
		func(w *impl.World) { w.Hands[0] = impl.Hand{Reply: 5} }, // likewise
	} {
		w := cloneWorld(one)
		w.Chan = busyChan()
		w.Deals = []impl.Deal{{Call: aSend, Reply: impl.RpOk}}
		if !impl.WorldOk(w) {
			t.Fatalf("it is refused: %+v", w)
		}
		change(&w)
		checkWrongWorld(t, fmt.Sprintf("%+v", w), w)
	}
}

// Promise 19: whatever is given, there is an answer, of its kind.
func TestWorldsAnswerAtEveryArgument(t *testing.T) {
	in := func(n, least, most int64) bool { return n >= least && n <= most }
	w := busyWorld()
	for _, n := range append(oddNumbers(), 3, 4, 5, 6, 7, 33, 34, 19999, 20000, 20001) {
		for _, m := range append(oddNumbers(), 3, 4, 5, 6, 7, 19999, 20000, 20001) {
			if x, is := impl.NewWorld(n, m); is != (in(n, 0, 4) && in(m, 1, 6)) || is != impl.WorldOk(x) {
				t.Fatalf("cap %d, %d tasks: %v", n, m, is)
			}
			if x, k := impl.Asked(w, n, impl.Call{Code: m}); (k == impl.CdWrong) != isZero(x) || in(n, 0, 4) == isZero(x) || (k == impl.CdOk) != (n == 0 && in(m, 1, 2)) {
				t.Fatalf("task %d, code %d: %d", n, m, k)
			}
			if x, steps := impl.Alone(w, n, m); in(n, 0, 4) == isZero(x) || (steps == -1) != (isZero(x) || !in(m, 0, 20000)) {
				t.Fatalf("task %d, %d at most: %d", n, m, steps)
			}
			y := cloneWorld(w)
			y.Deals, y.Now, y.Hands[1].Begin, y.Hands[3].Begin = nil, n, m, 0
			if ok := impl.WorldOk(y); ok != (in(n, 17, 20000) && in(m, 0, n)) { // the others began at 17
				t.Fatalf("now %d, begin %d: %v", n, m, ok)
			}
		}
		if x, is := impl.Stepped(w, n); is != (n == 1) || in(n, 0, 4) == isZero(x) {
			t.Fatalf("task %d: %v", n, is)
		}
		if x, rounds := impl.Settled(w, n); isZero(x) || (rounds == -1) != !in(n, 0, 20000) || rounds > max(n, 0) {
			t.Fatalf("%d at most: %d", n, rounds)
		}
	}
}

// worldAnswers lists what each function answers of a world, be it as it is or another one.
func worldAnswers(w impl.World) []impl.World {
	var list []impl.World
	add := func(x impl.World) { list = append(list, x) }
	for cap := int64(0); cap <= impl.MaxCap; cap += 2 {
		x, _ := impl.NewWorld(cap, 3)
		add(x)
	}
	for _, most := range []int64{-1, 0, 1, 3, impl.MaxNow, impl.MaxNow + 1} {
		x, _ := impl.Settled(w, most)
		add(x)
		for who := range int64(len(w.Hands)) + 1 {
			x, _ := impl.Alone(w, who, most)
			add(x)
		}
	}
	for who := range int64(len(w.Hands)) + 1 {
		x, _ := impl.Stepped(w, who)
		add(x)
		for _, c := range []impl.Call{aSend, aRecv, {}} {
			x, _ := impl.Asked(w, who, c)
			add(x)
		}
	}
	return list
}

// scribbles write each into one list of a world, up to the end of the room behind it.
func scribbles() []func(w impl.World) {
	return []func(w impl.World){
		func(w impl.World) { fill(w.Chan.Cells, impl.Cell{State: -7, Elem: -7, Waiter: -7}) },
		func(w impl.World) { fill(w.Chan.Words, -7) },
		func(w impl.World) { fill(w.Hands, impl.Hand{At: -7}) },
		func(w impl.World) { fill(w.Deals, impl.Deal{Task: -7}) },
	}
}

func fill[T any](list []T, with T) {
	list = list[:cap(list)]
	for i := range list {
		list[i] = with
	}
}

// scribble writes into all lists of a world.
func scribble(w impl.World) {
	for _, into := range scribbles() {
		into(w)
	}
}

// manyWorlds lists worlds in which tasks rest, go on and wait, come to rest, and have no more room.
func manyWorlds(t *testing.T) []impl.World {
	t.Helper()
	settled, _ := impl.Settled(askedWorld(t, 1, 5, 6, 0, 0, 0), impl.MaxNow)
	worlds, _, _ := restWorlds(3, 33)
	full, _, _ := restWorlds(impl.MaxDeals, impl.MaxNow)
	return append(append(rightWorlds(), askedWorld(t, 1, 5, 6, 0), settled), append(worlds, full[0])...)
}

// worldsOf lists what is answered of a world.
type worldsOf func(w impl.World) []impl.World

// Promise 19: answers are new memory.
func TestWorldsAreNewMemory(t *testing.T) { checkNewWorlds(t, manyWorlds(t), worldAnswers) }

// checkNewWorlds asks that who writes into an answer writes into no argument and into no other answer.
func checkNewWorlds(t *testing.T, worlds []impl.World, answersOf worldsOf) {
	t.Helper()
	for i, w := range worlds {
		before := cloneWorld(w)
		answers, want := answersOf(w), answersOf(w)
		for k := range answers {
			scribble(answers[k])
			if k+1 < len(answers) && !sameWorld(answers[k+1], want[k+1]) {
				t.Fatalf("world %d: answers %d and %d share their memory", i, k, k+1)
			}
			if !reflect.DeepEqual(w, before) {
				t.Fatalf("world %d: answer %d shares its memory with the argument", i, k)
			}
		}
		if again := answersOf(w); !slices.EqualFunc(again, want, sameWorld) {
			t.Fatalf("world %d is answered another way behind that", i)
		}
	}
}

// Promise 19: no two lists of one answer share any memory, nor the room behind them.
func TestWorldsHaveListsOfTheirOwn(t *testing.T) { checkOwnLists(t, manyWorlds(t), worldAnswers) }

func checkOwnLists(t *testing.T, worlds []impl.World, answersOf worldsOf) {
	t.Helper()
	without := []func(w *impl.World){
		func(w *impl.World) { w.Chan.Cells = nil }, func(w *impl.World) { w.Chan.Words = nil },
		func(w *impl.World) { w.Hands = nil }, func(w *impl.World) { w.Deals = nil },
	}
	for i, w := range worlds {
		for list, into := range scribbles() {
			for k, x := range answersOf(w) {
				want := cloneWorld(x)
				into(x)
				without[list](&x)
				without[list](&want)
				if !sameWorld(x, want) {
					t.Fatalf("world %d: answer %d has a list that shares its memory with another one", i, k)
				}
			}
		}
	}
}

// widened is the world with room behind each list, in which there is something; and the lists with that room.
func widened(w impl.World) (narrow, wide impl.World) {
	wide = cloneWorld(w)
	wide.Chan.Cells = append(wide.Chan.Cells, impl.Cell{State: 77}, impl.Cell{State: 78})
	wide.Chan.Words = append(wide.Chan.Words, 76, 75)
	wide.Hands = append(wide.Hands, impl.Hand{At: 74}, impl.Hand{At: 73})
	wide.Deals = append(wide.Deals, impl.Deal{Task: 72}, impl.Deal{Task: 71})
	narrow = wide
	narrow.Chan.Cells, narrow.Chan.Words = wide.Chan.Cells[:len(w.Chan.Cells)], wide.Chan.Words[:len(w.Chan.Words)]
	narrow.Hands, narrow.Deals = wide.Hands[:len(w.Hands)], wide.Deals[:len(w.Deals)]
	return narrow, wide
}

// Promise 19: arguments stay, and the room behind them too, where one more Deal or word would fit in.
func TestWorldsLeaveTheirArguments(t *testing.T) { checkWorldsStay(t, manyWorlds(t), worldAnswers) }

func checkWorldsStay(t *testing.T, worlds []impl.World, answersOf worldsOf) {
	t.Helper()
	for i, w := range worlds {
		narrow, wide := widened(w)
		before := cloneWorld(wide)
		if !impl.WorldOk(narrow) || impl.WorldOk(wide) {
			t.Fatalf("world %d: what is behind it is asked", i)
		}
		answers := answersOf(narrow)
		answersOf(wide)
		if !reflect.DeepEqual(wide, before) {
			t.Fatalf("world %d was written to", i)
		}
		if !slices.EqualFunc(answers, answersOf(w), sameWorld) {
			t.Fatalf("world %d: what is behind it is in an answer", i)
		}
		for _, x := range answers {
			scribble(x)
		}
		if !reflect.DeepEqual(wide, before) {
			t.Fatalf("world %d: an answer shares the room behind it", i)
		}
	}
}
