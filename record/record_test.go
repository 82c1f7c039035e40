package record_test

import (
	"math"
	"testing"

	"gristmill/api"
	"gristmill/object"
	"gristmill/plain"
	"gristmill/record"
)

type words = record.Record

// Words of answers, written out: Code times 2^32, and Value.
const (
	most   = 4294967295
	done   = 1 << 32
	empty  = 2 << 32
	full   = 3 << 32
	absent = 4 << 32
	wrong  = 5 << 32
)

// top is what a version and a count are at most, 2^40.
const top = 1099511627776

// Numbers that are no kind, and no thread; some would pass if they were cut to 32, or to 8, bits, or taken modulo 64.
var (
	noKinds   = []int{0, -1, -2, -6, 7, 8, 1<<8 + 1, 1 << 32, 1<<32 + 1, math.MinInt, math.MinInt + 1, math.MaxInt}
	noThreads = []int{-1, -2, -4, 4, 5, 8, 22, 26, 60, 63, 64, 65, 1 << 8, 1 << 32, 1<<32 + 1, math.MinInt, math.MinInt + 1, math.MaxInt}
)

// Operations that aren't Right.
var wrongOps = []api.Op{
	{}, {What: -1}, {What: 7}, {What: 1<<32 + 1}, {What: api.Put, Key: -1}, {What: api.Take, Key: 1001},
	{What: api.Put, Value: -1}, {What: api.Put, Value: most + 1}, {What: math.MaxInt}, {What: api.Count, Value: math.MinInt},
}

// asked: a thread, its operation (What, Key, Value), and what the words are then.
type asked struct {
	thread           int
	what, key, value int
	want             words
}

// tell does one operation behind the other, from words on, and is the last ones.
func tell(t *testing.T, r words, story ...asked) words {
	t.Helper()
	for i, s := range story {
		o := api.Op{What: s.what, Key: s.key, Value: s.value}
		before := r
		for range 2 {
			got, err := r.Done(s.thread, o)
			if got != s.want || err != nil {
				t.Errorf("number %d: of %v Done(%d, %v): %v, %v: want %v", i, r, s.thread, o, got, err, s.want)
			}
		}
		if r != before {
			t.Errorf("number %d: Done(%d, %v): what was asked was %v and is %v", i, s.thread, o, before, r)
		}
		if !s.want.Right() {
			t.Errorf("number %d: %v isn't Right", i, s.want)
		}
		r = s.want
	}
	return r
}

// answered asks what was answered to a thread last, and of which number its deed was.
func answered(t *testing.T, r words, thread, code, value, when int) {
	t.Helper()
	a, n, err := r.Answer(thread)
	if a != (api.Answer{Code: code, Value: value}) || n != when || err != nil {
		t.Errorf("of %v Answer(%d): %v, %d, %v: want %d and %d, %d", r, thread, a, n, err, code, value, when)
	}
}

// unanswered asks for an error, without a place, and zero values beside it.
func unanswered(t *testing.T, r words, thread int, want api.Errno) {
	t.Helper()
	a, n, err := r.Answer(thread)
	if e, at := plain.Place(err); a != (api.Answer{}) || n != 0 || e != want || at != -1 {
		t.Errorf("of %v Answer(%d): %v, %d, %v: want zero values and %v", r, thread, a, n, err, want)
	}
}

// refused likewise.
func refused(t *testing.T, r words, thread int, o api.Op, want api.Errno) {
	t.Helper()
	before := r
	got, err := r.Done(thread, o)
	if e, at := plain.Place(err); got != (words{}) || e != want || at != -1 {
		t.Errorf("of %v Done(%d, %v): %v, %v: want noughts and %v", r, thread, o, got, err, want)
	}
	if r != before {
		t.Errorf("Done(%d, %v): what was asked was %v and is %v", thread, o, before, r)
	}
}

func TestNew(t *testing.T) {
	for kind := 1; kind <= 6; kind++ {
		r, err := record.New(kind)
		if r != (words{0: uint64(kind)}) || err != nil {
			t.Errorf("New(%d): %v, %v", kind, r, err)
		}
		if r.Kind() != kind || r.Object() != (object.Cells{}) || !r.Right() {
			t.Errorf("New(%d): Kind %d, Object %v, Right %v", kind, r.Kind(), r.Object(), r.Right())
		}
		for thread := range 4 {
			unanswered(t, r, thread, api.ErrNone)
			if r.Toggle(thread) != 0 {
				t.Errorf("New(%d): the toggle of %d isn't 0", kind, thread)
			}
		}
	}
	for _, kind := range noKinds {
		r, err := record.New(kind)
		if e, at := plain.Place(err); r != (words{}) || e != api.ErrArg || at != -1 {
			t.Errorf("New(%d): %v, %v: want noughts and ErrArg", kind, r, err)
		}
	}
}

func TestKind(t *testing.T) {
	for _, c := range []struct {
		first uint64
		want  int
	}{
		{0, 0}, {1, 1}, {6, 6}, {7, 7}, {1 << 31, 1 << 31}, {1<<32 - 2, 1<<32 - 2}, {1<<32 - 1, 1<<32 - 1}, {1 << 32, 1 << 32},
		{1<<32 + 1, 1 << 32}, {1<<32 + 6, 1 << 32}, {1 << 33, 1 << 32}, {math.MaxInt64, 1 << 32}, {1 << 63, 1 << 32}, {1<<63 + 1, 1 << 32}, {math.MaxUint64, 1 << 32},
	} {
		for _, second := range []uint64{0, 9} {
			if got := (words{0: c.first, 1: second}).Kind(); got != c.want {
				t.Errorf("Kind of the first word %d: %d: want %d", c.first, got, c.want)
			}
		}
	}
}

// TestObject: the object's words are those from the second to the eighteenth, whatever they are.
func TestObject(t *testing.T) {
	var r words
	for i := range r {
		r[i] = math.MaxUint64 - uint64(i)
	}
	for i, w := range r.Object() {
		if w != math.MaxUint64-uint64(i+1) {
			t.Errorf("word %d of the object is %d: want %d", i, w, math.MaxUint64-uint64(i+1))
		}
	}
	if c := (words{1: 2, 2: 5, 3: 8, 17: 9}).Object(); c != (object.Cells{0: 2, 1: 5, 2: 8, 16: 9}) {
		t.Errorf("the object is %v", c)
	}
	if c := (words{0: 1, 18: 1, 22: 1, 26: 1, 27: 1, 28: 1, 29: 1}).Object(); c != (object.Cells{}) {
		t.Errorf("the object is %v: want noughts", c)
	}
}

func TestToggle(t *testing.T) {
	for _, c := range []struct {
		bits uint64
		want [4]int
	}{
		{0, [4]int{}}, {1, [4]int{1, 0, 0, 0}}, {2, [4]int{0, 1, 0, 0}}, {4, [4]int{0, 0, 1, 0}}, {8, [4]int{0, 0, 0, 1}},
		{9, [4]int{1, 0, 0, 1}}, {6, [4]int{0, 1, 1, 0}}, {15, [4]int{1, 1, 1, 1}}, {16, [4]int{}}, {1<<63 + 5, [4]int{1, 0, 1, 0}},
		{math.MaxUint64, [4]int{1, 1, 1, 1}}, {math.MaxUint64 - 15, [4]int{}},
	} {
		r := words{26: c.bits}
		for thread, want := range c.want {
			if got := r.Toggle(thread); got != want {
				t.Errorf("of the bits %b Toggle(%d): %d: want %d", c.bits, thread, got, want)
			}
		}
		for _, thread := range noThreads {
			if got := r.Toggle(thread); got != 0 {
				t.Errorf("of the bits %b Toggle(%d): %d: want 0", c.bits, thread, got)
			}
		}
	}
}

func TestAnswer(t *testing.T) {
	r := words{18: done + 7, 19: empty, 20: 0, 21: done + most, 22: 4, 23: 9, 24: 3, 25: 5, 28: 5}
	answered(t, r, 0, api.Done, 7, 4)
	answered(t, r, 1, api.Empty, 0, 9)
	unanswered(t, r, 2, api.ErrNone)
	answered(t, r, 3, api.Done, most, 5)
	for _, thread := range noThreads {
		unanswered(t, r, thread, api.ErrRange)
	}
	for word, code := range map[uint64]int{done: api.Done, empty: api.Empty, full: api.Full, absent: api.Absent, wrong: api.Wrong} {
		for thread := range 4 {
			r := words{}
			r[18+thread] = word
			answered(t, r, thread, code, 0, 0)
			r[22+thread] = top + 1
			answered(t, r, thread, code, 0, top+1)
			r[22+thread] = math.MaxInt64
			answered(t, r, thread, code, 0, math.MaxInt64)
		}
	}
	for _, word := range []uint64{0, 1, most, empty + 1, full + 1, absent + most, wrong + 1, 6 << 32, 7 << 32, 1<<40 + done, 1 << 63, 1<<63 + done, math.MaxUint64} {
		for thread := range 4 {
			r := words{22: 1, 23: 2, 24: 3, 25: 4, 28: 4}
			r[18+thread] = word
			unanswered(t, r, thread, api.ErrNone)
		}
	}
}

// TestQueueStory has each word written out: two threads, one deed behind the other.
func TestQueueStory(t *testing.T) {
	r := tell(t, words{0: 1},
		asked{0, api.Put, 0, 5, words{0: 1, 1: 1, 2: 5, 18: done, 22: 1, 26: 1, 28: 1}},
		asked{3, api.Put, 0, 8, words{0: 1, 1: 2, 2: 5, 3: 8, 18: done, 21: done, 22: 1, 25: 2, 26: 9, 28: 2}},
		asked{0, api.Take, 0, 0, words{0: 1, 1: 1, 2: 8, 18: done + 5, 21: done, 22: 3, 25: 2, 26: 8, 28: 3}},
		asked{0, api.Front, 0, 1, words{0: 1, 1: 1, 2: 8, 18: wrong, 21: done, 22: 4, 25: 2, 26: 9, 28: 4}},
		asked{3, api.Count, 0, 0, words{0: 1, 1: 1, 2: 8, 18: wrong, 21: done + 1, 22: 4, 25: 5, 26: 1, 28: 5}},
		asked{1, api.Take, 0, 0, words{0: 1, 18: wrong, 19: done + 8, 21: done + 1, 22: 4, 23: 6, 25: 5, 26: 3, 28: 6}},
		asked{2, api.Take, 0, 0, words{0: 1, 18: wrong, 19: done + 8, 20: empty, 21: done + 1, 22: 4, 23: 6, 24: 7, 25: 5, 26: 7, 28: 7}},
	)
	answered(t, r, 0, api.Wrong, 0, 4)
	answered(t, r, 1, api.Done, 8, 6)
	answered(t, r, 2, api.Empty, 0, 7)
	answered(t, r, 3, api.Done, 1, 5)
}

// TestOtherKinds: what is Done, Empty, Full, Absent or Wrong is a deed all the same; a version is left as it is.
func TestOtherKinds(t *testing.T) {
	tell(t, words{0: 2, 1: 6, 2: 1, 3: 2, 4: 3, 5: 4, 6: 5, 7: 6, 27: 3},
		asked{2, api.Put, 0, 9, words{0: 2, 1: 6, 2: 1, 3: 2, 4: 3, 5: 4, 6: 5, 7: 6, 20: full, 24: 1, 26: 4, 27: 3, 28: 1}},
		asked{2, api.Take, 0, 0, words{0: 2, 1: 5, 2: 1, 3: 2, 4: 3, 5: 4, 6: 5, 20: done + 6, 24: 2, 27: 3, 28: 2}},
	)
	tell(t, words{0: 3, 1: 1, 2: 5},
		asked{1, api.Front, 0, 3, words{0: 3, 1: 2, 2: 3, 3: 5, 19: done, 23: 1, 26: 2, 28: 1}},
		asked{1, api.Back, 0, 0, words{0: 3, 1: 1, 2: 3, 19: done + 5, 23: 2, 28: 2}},
	)
	tell(t, words{0: 4, 1: 2, 2: 5, 3: 8},
		asked{0, api.Put, 0, 3, words{0: 4, 1: 3, 2: 3, 3: 8, 4: 5, 18: done, 22: 1, 26: 1, 28: 1}},
		asked{1, api.Take, 0, 0, words{0: 4, 1: 2, 2: 5, 3: 8, 18: done, 19: done + 3, 22: 1, 23: 2, 26: 3, 28: 2}},
	)
	tell(t, words{0: 5, 27: top},
		asked{3, api.Put, 3, 7, words{0: 5, 15: 3, 16: 7, 21: done, 25: 1, 26: 8, 27: top, 28: 1}},
		asked{2, api.Peek, 11, 0, words{0: 5, 15: 3, 16: 7, 20: absent, 21: done, 24: 2, 25: 1, 26: 12, 27: top, 28: 2}},
		asked{2, api.Peek, 3, 0, words{0: 5, 15: 3, 16: 7, 20: done + 7, 21: done, 24: 3, 25: 1, 26: 8, 27: top, 28: 3}},
		asked{3, api.Put, 0, 1, words{0: 5, 15: 3, 16: 7, 20: done + 7, 21: wrong, 24: 3, 25: 4, 27: top, 28: 4}},
	)
	tell(t, words{0: 6, 1: most},
		asked{0, api.Take, 0, most, words{0: 6, 18: done + most, 22: 1, 26: 1, 28: 1}},
		asked{1, api.Take, 0, 1, words{0: 6, 18: done + most, 19: empty, 22: 1, 23: 2, 26: 3, 28: 2}},
	)
}

// TestCountAtItsMost: the count goes on from where it is; one more than it may be isn't Right any more.
func TestCountAtItsMost(t *testing.T) {
	r := words{0: 1, 18: empty, 22: top - 1, 26: 1, 27: top, 28: top - 1}
	r = tell(t, r, asked{1, api.Take, 0, 0, words{0: 1, 18: empty, 19: empty, 22: top - 1, 23: top, 26: 3, 27: top, 28: top}})
	got, err := r.Done(0, api.Op{What: api.Count})
	if want := (words{0: 1, 18: done, 19: empty, 22: top + 1, 23: top, 26: 2, 27: top, 28: top + 1}); got != want || err != nil || got.Right() {
		t.Errorf("Done of %v: %v, %v (Right: %v): want %v", r, got, err, got.Right(), want)
	}
	refused(t, got, 0, api.Op{What: api.Count}, api.ErrArg)
}

func TestRight(t *testing.T) {
	for _, c := range []struct {
		r     words
		right bool
	}{
		{words{}, false},
		{words{0: 1}, true},
		{words{0: 6}, true},
		{words{0: 7}, false},
		{words{0: 1<<32 + 1}, false},
		{words{0: 1 << 63}, false},
		{words{0: math.MaxUint64}, false},

		// The object, and of that kind.
		{words{0: 1, 1: 2, 2: 8, 3: 5}, true},
		{words{0: 4, 1: 2, 2: 8, 3: 5}, false},
		{words{0: 5, 1: 2, 2: 8, 3: 5}, false},
		{words{0: 5, 15: 3, 16: 7}, true},
		{words{0: 1, 15: 3, 16: 7}, false},
		{words{0: 6, 1: most}, true},
		{words{0: 1, 1: most}, false},
		{words{0: 6, 1: most + 1}, false},
		{words{0: 1, 1: 7, 2: 1, 3: 1, 4: 1, 5: 1, 6: 1, 7: 1, 8: 1}, false},
		{words{0: 1, 17: 1}, false},
		{words{0: 6, 17: 1}, false},

		// Answers, and their deeds' numbers.
		{words{0: 1, 18: done, 22: 1, 28: 1}, true},
		{words{0: 1, 21: done + most, 25: 1, 28: 1}, true},
		{words{0: 1, 18: wrong, 22: 1, 28: 1}, true},
		{words{0: 1, 18: wrong + 1, 22: 1, 28: 1}, false},
		{words{0: 1, 18: 1, 22: 1, 28: 1}, false},
		{words{0: 1, 21: 6 << 32, 25: 1, 28: 1}, false},
		{words{0: 1, 18: done, 28: 1}, false},
		{words{0: 1, 21: done, 28: 1}, false},
		{words{0: 1, 22: 1, 28: 1}, false},
		{words{0: 1, 25: 1, 28: 1}, false},
		{words{0: 1, 18: done, 23: 1, 28: 1}, false},
		{words{0: 1, 18: done, 22: 2, 28: 1}, false},
		{words{0: 1, 18: done, 22: 1}, false},
		{words{0: 1, 21: done, 25: math.MaxUint64, 28: 9}, false},
		{words{0: 1, 18: done, 22: 1, 28: 5}, true},
		{words{0: 1, 18: done, 19: done, 22: 1, 23: 2, 28: 2}, true},
		{words{0: 1, 18: done, 19: done, 22: 2, 23: 2, 28: 2}, false},
		{words{0: 1, 18: done, 21: full, 22: 2, 25: 2, 28: 2}, false},
		{words{0: 1, 20: done, 21: full, 24: 1, 25: 1, 28: 2}, false},
		{words{0: 1, 18: 1 << 32, 19: 2 << 32, 20: 3 << 32, 21: 4 << 32, 22: 4, 23: 3, 24: 2, 25: 1, 28: 4}, true},

		// Toggles, of threads that have an answer and of others.
		{words{0: 1, 26: 1}, true},
		{words{0: 1, 26: 8}, true},
		{words{0: 1, 26: 15}, true},
		{words{0: 1, 26: 16}, false},
		{words{0: 1, 26: 31}, false},
		{words{0: 1, 26: 1 << 63}, false},
		{words{0: 1, 26: math.MaxUint64}, false},

		// The version, the count, and what is behind.
		{words{0: 1, 27: top}, true},
		{words{0: 1, 27: top + 1}, false},
		{words{0: 1, 27: math.MaxUint64}, false},
		{words{0: 1, 28: top}, true},
		{words{0: 1, 28: top + 1}, false},
		{words{0: 1, 28: math.MaxUint64}, false},
		{words{0: 1, 18: done, 22: top, 28: top}, true},
		{words{0: 1, 18: done, 22: top + 1, 28: top + 1}, false},
		{words{0: 1, 29: 1}, false},
		{words{0: 1, 30: 1 << 63}, false},
		{words{0: 1, 31: 1}, false},
	} {
		if got := c.r.Right(); got != c.right {
			t.Errorf("Right of %v: %v", c.r, got)
		}
		if got := rightly(c.r); got != c.right {
			t.Errorf("rightly of %v: %v", c.r, got)
		}
	}
}

// rightly is what the document says of words, one by one.
func rightly(r words) bool {
	if r[0] < 1 || r[0] > 6 || !object.Right(int(r[0]), object.Cells(r[1:18])) {
		return false
	}
	seen := map[uint64]bool{}
	for thread := range 4 {
		answer, when := r[18+thread], r[22+thread]
		code, value := answer>>32, answer<<32
		switch {
		case answer == 0 && when == 0:
			continue
		case answer == 0 || when == 0 || when > r[28] || seen[when]:
			return false
		case code != 1 && (code < 1 || code > 5 || value != 0):
			return false
		}
		seen[when] = true
	}
	return r[26] < 16 && r[27] <= top && r[28] <= top && r[29] == 0 && r[30] == 0 && r[31] == 0
}

// someRecords are Right: one of each kind, with answers to none, to some and to all threads.
var someRecords = []words{
	{0: 1}, {0: 6, 1: 5},
	{0: 1, 1: 1, 2: 8, 18: wrong, 21: done, 22: 4, 25: 2, 26: 9, 27: 1, 28: 4},
	{0: 2, 1: 6, 2: 1, 3: 2, 4: 3, 5: 4, 6: 5, 7: 6, 20: full, 24: 1, 26: 4, 27: 3, 28: 1},
	{0: 3, 1: 2, 2: 3, 3: 5, 19: done + 1, 20: empty, 23: 7, 24: 6, 28: 8},
	{0: 4, 1: 3, 2: 3, 3: 8, 4: 5, 18: 1 << 32, 19: 2 << 32, 20: 3 << 32, 21: 4 << 32, 22: 4, 23: 3, 24: 2, 25: 1, 26: 15, 27: 4, 28: 4},
	{0: 5, 1: 11, 2: 9, 15: 3, 16: 7, 18: done, 19: done, 20: absent, 21: wrong, 22: 1, 23: 2, 24: 3, 25: 8, 26: 6, 27: top, 28: 8},
	{0: 6, 1: most, 18: done + most, 21: full, 22: top, 25: top - 1, 26: 1, 28: top},
}

// TestEachWordChanged: of records each word is made another one; Right is what the document says, and Done is done just if it is.
func TestEachWordChanged(t *testing.T) {
	others := []uint64{
		0, 1, 2, 3, 4, 5, 6, 7, 8, 9, 15, 16, 17, 1000, 1001, most, most + 1, done + 1, empty, empty + 1, full, absent, absent + 1, wrong, wrong + 1, 6 << 32,
		top - 1, top, top + 1, math.MaxInt64, 1 << 63, 1<<63 + 1, 1<<63 + done, math.MaxUint64,
	}
	seen := map[bool]int{}
	for _, r := range someRecords {
		if !r.Right() {
			t.Errorf("Right of %v: false", r)
		}
		for at := range r {
			for _, w := range others {
				x := r
				x[at] = w
				right := rightly(x)
				seen[right]++
				if x.Right() != right {
					t.Errorf("Right of %v: %v", x, !right)
				}
				if right {
					held(t, x, at%4, api.Op{What: api.Take, Key: 3})
				} else {
					refused(t, x, at%4, api.Op{What: api.Take, Key: 3}, api.ErrArg)
				}
			}
		}
	}
	if seen[true] < 300 || seen[false] < 300 {
		t.Errorf("Right or not: %v: too few to tell", seen)
	}
}

// held holds Done against what the document says of each word.
func held(t *testing.T, r words, thread int, o api.Op) words {
	t.Helper()
	c, a, err := object.Do(int(r[0]), object.Cells(r[1:18]), o)
	if err != nil {
		t.Fatalf("Do of %v: %v", r, err)
	}
	want := r
	copy(want[1:18], c[:])
	want[18+thread] = uint64(a.Code)*done + uint64(a.Value)
	want[22+thread] = r[28] + 1
	want[26] = r[26] ^ []uint64{1, 2, 4, 8}[thread]
	want[28] = r[28] + 1
	before := r
	got, err := r.Done(thread, o)
	if got != want || err != nil {
		t.Errorf("of %v Done(%d, %v): %v, %v: want %v", r, thread, o, got, err, want)
	}
	if r != before {
		t.Errorf("Done(%d, %v): what was asked was %v and is %v", thread, o, before, r)
	}
	answered(t, want, thread, a.Code, a.Value, int(want[28]))
	return want
}

// TestDoneErrors: the first of the errors that apply is the one told.
func TestDoneErrors(t *testing.T) {
	take := api.Op{What: api.Take}
	spoilt := words{0: 1, 31: 1}
	for _, r := range someRecords {
		for _, thread := range noThreads {
			refused(t, r, thread, take, api.ErrRange)
			refused(t, r, thread, api.Op{}, api.ErrRange)
			refused(t, spoilt, thread, take, api.ErrRange)
			refused(t, words{}, thread, api.Op{}, api.ErrRange)
		}
		for thread := range 4 {
			for _, o := range wrongOps {
				refused(t, r, thread, o, api.ErrArg)
				refused(t, spoilt, thread, o, api.ErrArg)
			}
			refused(t, spoilt, thread, take, api.ErrArg)
			refused(t, words{}, thread, take, api.ErrArg)
		}
	}
}

// TestLongStories does operations of all threads with objects of each kind, one behind the other.
func TestLongStories(t *testing.T) {
	draw := uint64(7)
	next := func(n int) int {
		draw = draw*6364136223846793005 + 1442695040888963407
		return int((draw >> 33) % uint64(n))
	}
	values := []int{0, 1, 2, 3, 1 << 31, most - 1, most}
	codes := map[int]int{}
	for kind := 1; kind <= 6; kind++ {
		for range 20 {
			r, _ := record.New(kind)
			for i := range 60 {
				o := api.Op{What: []int{1, 1, 1, 2, 2, 3, 4, 5, 6}[next(9)], Key: next(12), Value: values[next(len(values))]}
				r = held(t, r, next(4), o)
				if r.Kind() != kind || !r.Right() || r[28] != uint64(i+1) || r.Object() != object.Cells(r[1:18]) {
					t.Errorf("number %d: %v: Kind %d, Object %v, Right %v", i, r, r.Kind(), r.Object(), r.Right())
				}
				for thread := range 4 {
					if got := r.Toggle(thread); got != int(r[26]>>thread%2) {
						t.Errorf("number %d: of %v Toggle(%d): %d", i, r, thread, got)
					}
					a, _, _ := r.Answer(thread)
					codes[a.Code]++
				}
			}
		}
	}
	for code := range 6 {
		if codes[code] < 20 {
			t.Errorf("code %d was there %d times: too seldom to tell", code, codes[code])
		}
	}
}
