package tests

import (
	"math"
	"slices"
	"testing"

	"loop.example/g00794/impl"
)

var (
	aSend = impl.Call{Code: impl.OpSend, Elem: 7}
	aRecv = impl.Call{Code: impl.OpRecv}
)

// handPart is one number of a Hand: from 0 to most.
type handPart struct {
	name string
	most int64
	put  func(h *impl.Hand, n int64)
}

func handParts() []handPart {
	return []handPart{
		{"At", 25, func(h *impl.Hand, n int64) { h.At = n }},
		{"Cell", 39, func(h *impl.Hand, n int64) { h.Cell = n }},
		{"Seen", 10, func(h *impl.Hand, n int64) { h.Seen = n }},
		{"Waiter", 80, func(h *impl.Hand, n int64) { h.Waiter = n }},
		{"End", 40, func(h *impl.Hand, n int64) { h.End = n }},
		{"Come", 40, func(h *impl.Hand, n int64) { h.Come = n }},
		{"Grow", 39, func(h *impl.Hand, n int64) { h.Grow = n }},
		{"Mine", 80, func(h *impl.Hand, n int64) { h.Mine = n }},
		{"Then", 2, func(h *impl.Hand, n int64) { h.Then = n }},
		{"Begin", 20000, func(h *impl.Hand, n int64) { h.Begin = n }},
		{"Reply", 4, func(h *impl.Hand, n int64) { h.Reply = n }},
		{"Out", 999, func(h *impl.Hand, n int64) { h.Out = n }},
	}
}

// past lists numbers that the part may not be.
func (p handPart) past() []int64 { return beyond(p.most) }

// beyond is outOf where a narrower integer would wrap within the range too.
func beyond(most int64) []int64 {
	return slices.DeleteFunc(outOf(most), func(n int64) bool { return n >= 0 && n <= most })
}

// fullHand is right and meets every limit exactly.
func fullHand() impl.Hand {
	h := impl.Hand{Call: impl.Call{Code: impl.OpSend, Elem: impl.MaxElem}}
	for _, p := range handParts() {
		p.put(&h, p.most)
	}
	return h
}

// handAt is right where the Call fits At; no two of its other parts are alike, so that none can pass for another.
func handAt(at int64, c impl.Call) impl.Hand {
	return impl.Hand{
		At: at, Call: c, Cell: 11, Seen: impl.CsIn, Waiter: 12, End: 13, Come: 14, Grow: 15,
		Mine: 16, Then: impl.ThAgain, Begin: 17, Reply: impl.RpOver, Out: 18,
	}
}

// restHands lists right hands at rest, some of which still have numbers in their other parts.
func restHands() []impl.Hand {
	full := fullHand()
	full.At, full.Call = impl.AtRest, impl.Call{}
	list := []impl.Hand{{}, full, handAt(impl.AtRest, impl.Call{})}
	for _, p := range handParts()[1:] {
		for _, h := range list[:3] {
			for _, n := range []int64{0, 1, p.most - 1, p.most} {
				p.put(&h, n)
				list = append(list, h)
			}
		}
	}
	return list
}

// workHands lists right hands that are not at rest: at each other place, with each code, and with each part at its limits.
func workHands() []impl.Hand {
	list := []impl.Hand{fullHand(), {At: impl.AtSend, Call: aSend}, {At: impl.AtPark, Call: aRecv}}
	for _, p := range handParts()[1:] {
		for _, h := range list[:3] {
			for _, n := range []int64{0, 1, p.most - 1, p.most} {
				p.put(&h, n)
				list = append(list, h)
			}
		}
	}
	for at := int64(impl.AtSend); at <= impl.AtMark; at++ {
		list = append(list, handAt(at, aSend), handAt(at, aRecv), impl.Hand{At: at, Call: aRecv})
	}
	return list
}

// strayHands lists hands with just one number that is out of its range.
func strayHands() []impl.Hand {
	var list []impl.Hand
	for i, p := range handParts() {
		hands := []impl.Hand{fullHand(), handAt(impl.AtTake, aRecv), {At: impl.AtSend, Call: aSend}}
		if i > 0 { // a hand that was at rest would have a wrong Call too where At is another
			hands = append(hands, restHands()[:3]...)
		}
		for _, h := range hands {
			for _, n := range p.past() {
				p.put(&h, n)
				list = append(list, h)
			}
		}
	}
	return list
}

// unfitHands lists hands with a Call that does not fit where they are.
func unfitHands() []impl.Hand {
	var list []impl.Hand
	for at := int64(impl.AtSend); at <= impl.AtMark; at++ {
		for _, c := range append(wrongCalls(), impl.Call{}) {
			list = append(list, impl.Hand{At: at, Call: c}, handAt(at, c))
		}
	}
	for _, c := range append(wrongCalls(), aSend, aRecv, impl.Call{Code: impl.OpSend}) {
		if c != (impl.Call{}) {
			list = append(list, impl.Hand{Call: c}, handAt(impl.AtRest, c))
		}
	}
	return list
}

func wrongHands() []impl.Hand { return append(strayHands(), unfitHands()...) }

func TestHandNumbers(t *testing.T) {
	places := []int64{
		impl.AtRest, impl.AtSend, impl.AtLay, impl.AtLook, impl.AtEnd, impl.AtCome, impl.AtPut,
		impl.AtCall, impl.AtDone, impl.AtRecv, impl.AtView, impl.AtSent, impl.AtTake, impl.AtWake,
		impl.AtFinish, impl.AtFail, impl.AtGrow, impl.AtFar, impl.AtMeet, impl.AtPull,
		impl.AtRaise, impl.AtKeep, impl.AtLose, impl.AtPark, impl.AtFetch, impl.AtMark,
	}
	if len(places) != 26 {
		t.Errorf("%d places", len(places))
	}
	for i, at := range places {
		if at != int64(i) {
			t.Errorf("place %d is %d", i, at)
		}
	}
	if impl.ThRest != 0 || impl.ThPark != 1 || impl.ThAgain != 2 || impl.MaxNow != 20000 {
		t.Error("a number is not the document's")
	}
	if impl.CdOk != 0 || impl.CdBusy != 1 || impl.CdUnfit != 2 || impl.CdWrong != 3 {
		t.Error("a code is not the document's")
	}
}

func TestHandOk(t *testing.T) {
	for _, h := range append(restHands(), workHands()...) {
		if !impl.HandOk(h) {
			t.Errorf("%+v is refused", h)
		}
	}
	for _, h := range wrongHands() {
		if impl.HandOk(h) {
			t.Errorf("%+v is accepted", h)
		}
	}
}

// Each part from below its first number to past its last one, at rest and not.
func TestHandOkEachNumber(t *testing.T) {
	for i, p := range handParts() {
		for n := int64(-3); n <= p.most+3; n++ {
			work, rest := handAt(impl.AtGrow, aRecv), handAt(impl.AtRest, impl.Call{})
			p.put(&work, n)
			p.put(&rest, n)
			right := n >= 0 && n <= p.most
			if ok := impl.HandOk(work); ok != (right && (i > 0 || n > 0)) {
				t.Errorf("%s %d at work: %v", p.name, n, ok)
			}
			if ok := impl.HandOk(rest); ok != (right && (i > 0 || n == 0)) {
				t.Errorf("%s %d at rest: %v", p.name, n, ok)
			}
		}
	}
}

// The code of a Call says nothing of where the hand is: each step asks for that by itself.
func TestHandOkAnyCodeAnywhere(t *testing.T) {
	for at := int64(impl.AtSend); at <= impl.AtMark; at++ {
		for _, c := range rightCalls() {
			if h := (impl.Hand{At: at, Call: c}); !impl.HandOk(h) {
				t.Errorf("%+v is refused", h)
			}
		}
	}
}

// Promise 5: who rests has the answer, and nothing else.
func TestRestingHasNothingInHand(t *testing.T) {
	for reply := int64(0); reply <= impl.RpOver; reply++ {
		for _, out := range []int64{0, 1, 500, impl.MaxElem} {
			h := impl.Resting(reply, out)
			if h != (impl.Hand{Reply: reply, Out: out}) || !impl.HandOk(h) {
				t.Errorf("Resting(%d, %d) is %+v", reply, out, h)
			}
		}
	}
	if impl.Resting(0, 0) != (impl.Hand{}) {
		t.Error("who rests with nothing is not the zero Hand")
	}
}

// What is given out of its range is in the hand all the same, which is not right then.
func TestRestingOutOfRange(t *testing.T) {
	for _, reply := range outOf(impl.RpOver) {
		if h := impl.Resting(reply, 3); h != (impl.Hand{Reply: reply, Out: 3}) || impl.HandOk(h) {
			t.Errorf("Resting(%d, 3) is %+v", reply, h)
		}
	}
	for _, out := range []int64{-1, math.MinInt64, impl.MaxElem + 1, math.MaxInt64} {
		if h := impl.Resting(2, out); h != (impl.Hand{Reply: 2, Out: out}) || impl.HandOk(h) {
			t.Errorf("Resting(2, %d) is %+v", out, h)
		}
	}
}

// Promise 5: at rest there is no Call, though it be a right one, and whatever else there is.
func TestRestWithACallIsNotRight(t *testing.T) {
	for _, h := range restHands() {
		for _, c := range append(rightCalls(), impl.Call{Elem: 1}, impl.Call{Code: 3}, impl.Call{Elem: -1}) {
			h.Call = c
			if x, code := impl.Called(h, aRecv); impl.HandOk(h) || code != impl.CdWrong || x != (impl.Hand{}) {
				t.Errorf("%+v: %+v, %d", h, x, code)
			}
		}
	}
}

// Promise 5: who is called begins with that Call alone; nothing is left of what was before.
func TestCalled(t *testing.T) {
	for _, h := range restHands() {
		for _, c := range []impl.Call{aSend, aRecv, {Code: impl.OpSend}, {Code: impl.OpSend, Elem: impl.MaxElem}} {
			want := impl.Hand{At: impl.AtSend, Call: c}
			if c.Code == impl.OpRecv {
				want.At = impl.AtRecv
			}
			if x, code := impl.Called(h, c); x != want || code != impl.CdOk || !impl.HandOk(x) {
				t.Errorf("Called(%+v, %v) is %+v, %d", h, c, x, code)
			}
		}
	}
}

func TestCalledEveryRightCall(t *testing.T) {
	at := map[int64]int64{impl.OpSend: impl.AtSend, impl.OpRecv: impl.AtRecv}
	for _, c := range rightCalls() {
		x, code := impl.Called(impl.Resting(impl.RpValue, 5), c)
		if x != (impl.Hand{At: at[c.Code], Call: c}) || code != impl.CdOk {
			t.Errorf("%v: %+v, %d", c, x, code)
		}
		if again, code := impl.Called(x, c); again != x || code != impl.CdBusy {
			t.Errorf("%v again: %+v, %d", c, again, code)
		}
	}
}

// Who is at work is busy, whatever he is called with: of both codes this one is named first.
func TestCalledBusy(t *testing.T) {
	for _, h := range workHands() {
		for _, c := range append(wrongCalls(), impl.Call{}, aSend, aRecv) {
			if x, code := impl.Called(h, c); x != h || code != impl.CdBusy {
				t.Errorf("Called(%+v, %v) is %+v, %d", h, c, x, code)
			}
		}
	}
}

func TestCalledUnfit(t *testing.T) {
	for _, h := range restHands() {
		for _, c := range append(wrongCalls(), impl.Call{}) {
			if x, code := impl.Called(h, c); x != h || code != impl.CdUnfit {
				t.Errorf("Called(%+v, %v) is %+v, %d", h, c, x, code)
			}
		}
	}
}

// A hand that is not right goes ahead of all else: of who is busy, and of a Call that is not right.
func TestCalledWrong(t *testing.T) {
	for _, h := range wrongHands() {
		for _, c := range []impl.Call{aSend, aRecv, {}, {Code: 3}, {Code: impl.OpSend, Elem: -1}} {
			if x, code := impl.Called(h, c); x != (impl.Hand{}) || code != impl.CdWrong {
				t.Errorf("Called(%+v, %v) is %+v, %d", h, c, x, code)
			}
		}
	}
}

// checkHand asks for what chapter 5 says of a hand of which the test knows whether it is right.
func checkHand(t *testing.T, h impl.Hand, c impl.Call, right bool) {
	t.Helper()
	want, code := impl.Hand{}, int64(impl.CdWrong)
	switch {
	case right && h.At != 0:
		want, code = h, impl.CdBusy
	case right && !impl.CallOk(c):
		want, code = h, impl.CdUnfit
	case right:
		want, code = impl.Hand{At: 1, Call: c}, impl.CdOk
		if c.Code == 2 {
			want.At = 9
		}
	}
	for range 2 { // and the same again
		if x, k := impl.Called(h, c); impl.HandOk(h) != right || x != want || k != code {
			t.Fatalf("Called(%+v, %v) is %+v, %d", h, c, x, k)
		}
	}
}

// Promise 19: whatever is given, there is an answer, and one that keeps to its kind.
func TestHandsAnswerAtEveryArgument(t *testing.T) {
	odd := []int64{
		math.MinInt64, math.MinInt64 + 1, -1 << 32, -1, 0, 1, 2, 3, 4, 5, 10, 11, 25, 26, 39, 40, 41,
		80, 81, 999, 1000, 20000, 20001, 1 << 32, 1<<32 + 1, math.MaxInt64 - 1, math.MaxInt64,
	}
	in := func(n, most int64) bool { return n >= 0 && n <= most }
	parts := handParts()
	for _, n := range odd {
		for _, m := range odd {
			if h := impl.Resting(n, m); h != (impl.Hand{Reply: n, Out: m}) || impl.HandOk(h) != (in(n, 4) && in(m, 999)) {
				t.Fatalf("Resting(%d, %d) is %+v", n, m, h)
			}
			c := impl.Call{Code: n, Elem: m}
			checkHand(t, impl.Hand{}, c, true)
			checkHand(t, impl.Hand{At: 23, Call: aSend}, c, true)
			checkHand(t, impl.Hand{Call: c}, aSend, n == 0 && m == 0)
			checkHand(t, impl.Hand{At: 23, Call: c}, aSend, n == 1 && in(m, 999) || n == 2 && m == 0)
			for i, p := range parts[1:] {
				q := parts[1+(i+1)%len(parts[1:])]
				rest, work := impl.Hand{}, handAt(9, aRecv)
				for _, h := range []*impl.Hand{&rest, &work} {
					p.put(h, n)
					q.put(h, m)
					checkHand(t, *h, c, in(n, p.most) && in(m, q.most))
				}
			}
		}
	}
}

// Promise 19: arguments stay, those in lists too.
func TestHandsLeaveTheirArguments(t *testing.T) {
	hands := slices.Concat(restHands(), workHands(), wrongHands())
	calls := append(wrongCalls(), impl.Call{}, aSend, aRecv)
	handsBefore, callsBefore := slices.Clone(hands), slices.Clone(calls)
	for i := range hands {
		impl.HandOk(hands[i])
		impl.Called(hands[i], calls[i%len(calls)])
		impl.Resting(hands[i].Reply, hands[i].Out)
	}
	if !slices.Equal(hands, handsBefore) || !slices.Equal(calls, callsBefore) {
		t.Error("an argument was written to")
	}
}
