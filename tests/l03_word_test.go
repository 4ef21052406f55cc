package tests

import (
	"math"
	"reflect"
	"slices"
	"testing"

	"loop.example/g00794/impl"
)

// bothWords are all that somebody can be told.
var bothWords = []int64{impl.WdCalled, impl.WdStopped}

// worded is a right channel with these words; its cells have something to be lost.
func worded(words ...int64) impl.Chan {
	c := impl.NewChan(2)
	c.Sent, c.Got = 9, 7
	for i := range c.Cells {
		c.Cells[i] = impl.Cell{State: int64(i % statesInAll), Elem: int64(i), Waiter: int64(len(words))}
	}
	c.Words = slices.Clone(words)
	return c
}

// checkTold asks for the channel c with the word of w put there, or for c as it is.
func checkTold(t *testing.T, c impl.Chan, w int64, word int64, can bool) {
	t.Helper()
	want := cloneChan(c)
	if can {
		want.Words[w-1] = word
	}
	before := cloneChan(c)
	if x, is := impl.Told(c, w, word); is != can || !sameChan(x, want) {
		t.Errorf("words %v: Told(%d, %d) is %v, %v", c.Words, w, word, x.Words, is)
	}
	if !reflect.DeepEqual(c, before) {
		t.Errorf("words %v: Told(%d, %d) wrote to its argument", before.Words, w, word)
	}
}

func TestWordNumbers(t *testing.T) {
	if impl.WdCalled != 1 || impl.WdStopped != 2 {
		t.Error("a word is not the document's")
	}
}

func TestWordOf(t *testing.T) {
	for _, words := range [][]int64{{}, {2}, {0, 1, 2}, fullChan().Words, fullChan().Words[:impl.MaxWords-1]} {
		c := worded(words...)
		for i, word := range words {
			if n := impl.WordOf(c, int64(i)+1); n != word {
				t.Errorf("words %v: that of waiter %d is %d", words, i+1, n)
			}
		}
		for _, w := range append(outOf(int64(len(words))), 0) {
			if n := impl.WordOf(c, w); n != -1 {
				t.Errorf("words %v: that of waiter %d is %d", words, w, n)
			}
		}
	}
}

// Who waits is told, whoever it is: the first one, the last one, and each between.
func TestToldWhoWaits(t *testing.T) {
	for _, n := range []int{1, 2, 3, impl.MaxWords - 1, impl.MaxWords} {
		c := worded(make([]int64, n)...)
		for w := int64(1); w <= int64(n); w++ {
			checkTold(t, c, w, impl.WdCalled, true)
			checkTold(t, c, w, impl.WdStopped, true)
		}
	}
}

// What others were told is no matter to who waits, and stays.
func TestToldAmongOthers(t *testing.T) {
	c := fullChan()
	for i, word := range c.Words {
		checkTold(t, c, int64(i)+1, impl.WdCalled, word == 0)
		checkTold(t, c, int64(i)+1, impl.WdStopped, word == 0)
	}
}

func TestToldNoSuchWaiter(t *testing.T) {
	for _, n := range []int{0, 1, 2, impl.MaxWords - 1, impl.MaxWords} {
		c := worded(make([]int64, n)...)
		for _, w := range append(outOf(int64(n)), 0) {
			for _, word := range bothWords {
				checkTold(t, c, w, word, false)
			}
		}
	}
}

// Neither who waits nor who was told already hears what is no word.
func TestToldNoWord(t *testing.T) {
	c := worded(0, 1, 2)
	for _, word := range append(outOf(impl.WdStopped), 0) {
		for w := int64(0); w <= 4; w++ {
			checkTold(t, c, w, word, false)
		}
	}
}

// Promise 3: whichever of both comes first stays, whatever comes then.
func TestToldOnce(t *testing.T) {
	for _, n := range []int64{1, 2, impl.MaxWords - 1, impl.MaxWords} {
		for _, w := range []int64{1, (n + 1) / 2, n} {
			for _, first := range bothWords {
				checkToldOnce(t, worded(make([]int64, n)...), w, first)
			}
		}
	}
}

func checkToldOnce(t *testing.T, c impl.Chan, w int64, first int64) {
	t.Helper()
	told, is := impl.Told(c, w, first)
	if !is || impl.WordOf(told, w) != first {
		t.Errorf("waiter %d of %d is not told %d", w, len(c.Words), first)
	}
	for range 3 {
		for _, then := range []int64{impl.WdStopped, impl.WdCalled, 0} {
			checkTold(t, told, w, then, false)
			told, _ = impl.Told(told, w, then)
		}
	}
	if n := impl.WordOf(told, w); n != first {
		t.Errorf("waiter %d of %d was told %d, and has %d", w, len(c.Words), first, n)
	}
}

// Promise 3: in every order in which two are called and stopped, each has what came first.
func TestToldInAnyOrder(t *testing.T) {
	type telling struct{ w, word int64 }
	all := []telling{{1, impl.WdCalled}, {1, impl.WdStopped}, {2, impl.WdCalled}, {2, impl.WdStopped}}
	for code := range 4 * 4 * 4 * 4 {
		c, want := worded(0, 0), []int64{0, 0}
		for n, left := 0, code; n < 4; n, left = n+1, left/4 {
			one := all[left%4]
			waits := want[one.w-1] == 0
			if waits {
				want[one.w-1] = one.word
			}
			next, is := impl.Told(c, one.w, one.word)
			if is != waits || !slices.Equal(next.Words, want) {
				t.Fatalf("order %d, telling %d: %v, %v, not %v, %v", code, n, next.Words, is, want, waits)
			}
			c = next
		}
	}
}

// From none on until there is no room: each one is the last one, and waits.
func TestWaiter(t *testing.T) {
	c := impl.NewChan(1)
	c.Cells[39] = impl.Cell{State: impl.CsKept, Elem: 4}
	for n := int64(1); n <= impl.MaxWords; n++ {
		want := cloneChan(c)
		want.Words = append(want.Words, 0)
		next, w := impl.Waiter(c)
		if w != n || !sameChan(next, want) || impl.WordOf(next, n) != 0 || !impl.ChanOk(next) {
			t.Fatalf("%d: %v, %d", n, next, w)
		}
		told, is := impl.Told(next, n, n%2+1)
		if !is {
			t.Fatalf("%d can't be told", n)
		}
		c = told
	}
	for range 2 {
		next, w := impl.Waiter(c)
		if w != 0 || !sameChan(next, c) || !impl.ChanOk(next) {
			t.Fatalf("one more: %v, %d", next, w)
		}
		c = next
	}
}

func TestWaiterLimits(t *testing.T) {
	for _, n := range []int{impl.MaxWords - 1, impl.MaxWords} {
		c := fullChan()
		c.Words = c.Words[:n]
		for i := range c.Cells {
			c.Cells[i].Waiter = int64(n)
		}
		want, most := cloneChan(c), int64(0)
		if n < impl.MaxWords {
			want.Words, most = append(want.Words, 0), impl.MaxWords
		}
		if x, w := impl.Waiter(c); w != most || !sameChan(x, want) {
			t.Errorf("%d words: %v, %d", n, x, w)
		}
	}
}

func TestWordsOfWrongChans(t *testing.T) {
	for name, c := range wrongChans() {
		for _, w := range []int64{-1, 0, 1, 2, 34, impl.MaxWords, impl.MaxWords + 1} {
			if n := impl.WordOf(c, w); n != -1 {
				t.Errorf("%s: the word of %d is %d", name, w, n)
			}
			for word := int64(-1); word <= 3; word++ {
				if x, is := impl.Told(c, w, word); is || !sameChan(x, impl.Chan{}) {
					t.Errorf("%s: Told(%d, %d) is %v, %v", name, w, word, x, is)
				}
			}
		}
		if x, n := impl.Waiter(c); n != 0 || !sameChan(x, impl.Chan{}) {
			t.Errorf("%s: one more is %v, %d", name, x, n)
		}
	}
}

// A word that would mend the channel is not told: it was not right before.
func TestToldMendsNothing(t *testing.T) {
	for _, n := range outOf(impl.WdStopped) {
		c := worded(0, n, 0)
		for _, word := range bothWords {
			if x, is := impl.Told(c, 2, word); is || !sameChan(x, impl.Chan{}) {
				t.Errorf("word %d: %v, %v", n, x, is)
			}
		}
	}
	c := worded()
	c.Cells[5].Waiter = 1
	if x, n := impl.Waiter(c); n != 0 || !sameChan(x, impl.Chan{}) {
		t.Errorf("a waiter too many: %v, %d", x, n)
	}
}

// Promise 19: whatever is given, there is an answer, and one that keeps to its kind.
func TestWordsAnswerAtEveryArgument(t *testing.T) {
	odd := []int64{math.MinInt64, math.MinInt64 + 1, -1 << 32, -1, 0, 1, 2, 3, 4, 80, 81, 1 << 32, 1<<32 + 1, math.MaxInt64 - 1, math.MaxInt64}
	for _, w := range odd {
		for _, word := range odd {
			checkTold(t, worded(0, 0, 0), w, word, w >= 1 && w <= 3 && (word == 1 || word == 2))
			checkTold(t, worded(), w, word, false)
			if x, is := impl.Told(impl.Chan{}, w, word); is || !sameChan(x, impl.Chan{}) {
				t.Errorf("zero: Told(%d, %d) is %v, %v", w, word, x, is)
			}
			c := worded(0, 0, word)
			if n := impl.WordOf(c, 3); (n == word) != (word >= -1 && word <= 2) || (n != word && n != -1) {
				t.Errorf("a word %d is read as %d", word, n)
			}
			c.Got = w
			if x, n := impl.Waiter(c); (n == 4) != impl.ChanOk(c) || impl.ChanOk(x) != impl.ChanOk(c) {
				t.Errorf("Got %d, word %d: %v, %d", w, word, x, n)
			}
		}
	}
}

// wordAnswers are the channels that chapter 3 makes of c, whether it can do what it is asked or not.
func wordAnswers(c impl.Chan) []impl.Chan {
	joined, _ := impl.Waiter(c)
	called, _ := impl.Told(c, 1, impl.WdCalled)
	stopped, _ := impl.Told(c, 2, impl.WdStopped)
	same, _ := impl.Told(c, 0, impl.WdCalled)
	wordless, _ := impl.Told(c, 1, 3)
	return []impl.Chan{joined, called, stopped, same, wordless}
}

// Promise 19: who writes into an answer writes into no argument and into no other answer.
func TestWordsAreNewMemory(t *testing.T) {
	full := fullChan()
	for _, c := range []impl.Chan{worded(0, 0, 0), worded(0), full, worded(full.Words[:impl.MaxWords-1]...)} {
		before := cloneChan(c)
		answers, want := wordAnswers(c), wordAnswers(c)
		for i := range answers {
			for k := range answers[i].Cells {
				answers[i].Cells[k] = impl.Cell{State: -7, Elem: -7, Waiter: -7}
			}
			for k := range answers[i].Words {
				answers[i].Words[k] = -7
			}
			answers[i].Words = append(answers[i].Words, -8)
			answers[i].Cells = append(answers[i].Cells, impl.Cell{State: -8})
			for k := i + 1; k < len(answers); k++ {
				if !sameChan(answers[k], want[k]) {
					t.Errorf("%d words: answers %d and %d share their memory", len(c.Words), i, k)
				}
			}
		}
		if !reflect.DeepEqual(c, before) {
			t.Errorf("%d words: an answer shares its memory with the argument", len(c.Words))
		}
	}
}

// Promise 19: arguments stay, and the room behind them too, where one more word would fit in.
func TestWordsLeaveTheirArguments(t *testing.T) {
	wide := fullChan()
	wide.Cells = append(wide.Cells, impl.Cell{State: 77, Elem: 78, Waiter: 79})
	wide.Words = append(wide.Words, 76)
	for i := range wide.Cells {
		wide.Cells[i].Waiter = 0
	}
	before := cloneChan(wide)
	for n := range impl.MaxWords + 2 {
		c := wide
		c.Cells, c.Words = wide.Cells[:impl.MaxCells], wide.Words[:n]
		if impl.ChanOk(c) != (n <= impl.MaxWords) {
			t.Errorf("%d words: is it right?", n)
		}
		for w := int64(-1); w <= int64(n)+1; w++ {
			impl.WordOf(c, w)
			for word := int64(-1); word <= 3; word++ {
				impl.Told(c, w, word)
			}
		}
		impl.Waiter(c)
	}
	wordAnswers(wide)
	if !reflect.DeepEqual(wide, before) {
		t.Error("an argument was written to")
	}
}
