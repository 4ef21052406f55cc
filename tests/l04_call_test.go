package tests

import (
	"math"
	"slices"
	"testing"

	"loop.example/g00794/impl"
)

// allReplies are all that somebody who asked can be told.
var allReplies = []int64{impl.RpOk, impl.RpValue, impl.RpStopped, impl.RpOver}

// replies are all that may be replied to a right call of each code.
var replies = map[int64][]int64{
	impl.OpSend: {impl.RpOk, impl.RpStopped, impl.RpOver},
	impl.OpRecv: {impl.RpValue, impl.RpStopped, impl.RpOver},
}

// wrongOnes lists numbers below those from 1 to most, and past them.
func wrongOnes(most int64) []int64 { return append(outOf(most), 0) }

// rightCalls lists all calls that are right.
func rightCalls() []impl.Call {
	list := []impl.Call{{Code: impl.OpRecv}}
	for e := int64(0); e <= impl.MaxElem; e++ {
		list = append(list, impl.Call{Code: impl.OpSend, Elem: e})
	}
	return list
}

// wrongCalls lists calls with just one field that is not right.
func wrongCalls() []impl.Call {
	var list []impl.Call
	for _, code := range wrongOnes(impl.OpRecv) {
		for _, e := range []int64{0, 1, impl.MaxElem} {
			list = append(list, impl.Call{Code: code, Elem: e})
		}
	}
	for _, e := range []int64{-1, -2, math.MinInt64, impl.MaxElem + 1, impl.MaxElem + 2, 1 << 16, 1 << 32, math.MaxInt64} {
		list = append(list, impl.Call{Code: impl.OpSend, Elem: e})
	}
	for _, e := range append(outOf(0), impl.MaxElem, impl.MaxElem+1) {
		list = append(list, impl.Call{Code: impl.OpRecv, Elem: e})
	}
	return list
}

func TestCallNumbers(t *testing.T) {
	if impl.OpSend != 1 || impl.OpRecv != 2 {
		t.Error("a code is not the document's")
	}
	if !slices.Equal(allReplies, []int64{1, 2, 3, 4}) {
		t.Error("a reply is not the document's")
	}
}

func TestCallOk(t *testing.T) {
	for _, c := range rightCalls() {
		if !impl.CallOk(c) {
			t.Errorf("%v is refused", c)
		}
	}
	for _, c := range wrongCalls() {
		if impl.CallOk(c) {
			t.Errorf("%v is accepted", c)
		}
	}
}

// Who receives gives nothing, whatever who sends may give.
func TestCallOkElemOfEachCode(t *testing.T) {
	for e := int64(-3); e <= impl.MaxElem+3; e++ {
		if ok := impl.CallOk(impl.Call{Code: impl.OpSend, Elem: e}); ok != (e >= 0 && e <= impl.MaxElem) {
			t.Errorf("send %d: %v", e, ok)
		}
		if ok := impl.CallOk(impl.Call{Code: impl.OpRecv, Elem: e}); ok != (e == 0) {
			t.Errorf("receive %d: %v", e, ok)
		}
	}
}

// Promise 4: to a right call, each of the replies of its code may be, and none beside them.
func TestReplyOk(t *testing.T) {
	for _, c := range rightCalls() {
		for _, reply := range append(wrongOnes(impl.RpOver), allReplies...) {
			want := slices.Contains(replies[c.Code], reply)
			if ok := impl.ReplyOk(c, reply); ok != want {
				t.Errorf("ReplyOk(%v, %d) is %v", c, reply, ok)
			}
		}
	}
}

// Promise 4: who sends receives nothing, and who receives sends nothing.
func TestReplyOkOfOneCodeAlone(t *testing.T) {
	recv := impl.Call{Code: impl.OpRecv}
	if impl.ReplyOk(recv, impl.RpOk) || !impl.ReplyOk(recv, impl.RpValue) {
		t.Error("what is replied to who receives")
	}
	for _, e := range []int64{0, 1, impl.MaxElem} {
		send := impl.Call{Code: impl.OpSend, Elem: e}
		if impl.ReplyOk(send, impl.RpValue) || !impl.ReplyOk(send, impl.RpOk) {
			t.Errorf("what is replied to who sends %d", e)
		}
	}
}

// Promise 4: where nothing right was asked, nothing may be replied, not even what may be to each code.
func TestReplyOkToWrongCalls(t *testing.T) {
	for _, c := range append(wrongCalls(), impl.Call{}) {
		for _, reply := range append(wrongOnes(impl.RpOver), allReplies...) {
			if impl.ReplyOk(c, reply) {
				t.Errorf("ReplyOk(%v, %d) is true", c, reply)
			}
		}
	}
}

// Promise 19: whatever is given, there is an answer, and it is the same again.
func TestCallsAnswerAtEveryArgument(t *testing.T) {
	odd := []int64{math.MinInt64, math.MinInt64 + 1, -1 << 32, -2, -1, 0, 1, 2, 3, 4, 5, 999, 1000, 1<<8 + 1, 1<<16 + 2, 1<<32 + 1, 1<<32 + 2, math.MaxInt64 - 1, math.MaxInt64}
	for _, code := range odd {
		for _, e := range odd {
			c := impl.Call{Code: code, Elem: e}
			right := code == 1 && e >= 0 && e <= 999 || code == 2 && e == 0
			if impl.CallOk(c) != right || impl.CallOk(c) != right {
				t.Fatalf("%v: is it right?", c)
			}
			for _, reply := range odd {
				want := right && (reply == code || reply == 3 || reply == 4)
				if impl.ReplyOk(c, reply) != want || impl.ReplyOk(c, reply) != want {
					t.Fatalf("ReplyOk(%v, %d) is not %v", c, reply, want)
				}
			}
		}
	}
}

// Promise 19: arguments stay, those in a list of calls too.
func TestCallsLeaveTheirArguments(t *testing.T) {
	calls := append(rightCalls(), wrongCalls()...)
	before := slices.Clone(calls)
	for i := range calls {
		impl.CallOk(calls[i])
		for reply := int64(-1); reply <= 5; reply++ {
			impl.ReplyOk(calls[i], reply)
		}
	}
	if !slices.Equal(calls, before) {
		t.Error("a call was written to")
	}
}
