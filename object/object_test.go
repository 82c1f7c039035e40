package object_test

import (
	"errors"
	"math"
	"testing"

	"gristmill/api"
	"gristmill/deque"
	"gristmill/heap"
	"gristmill/object"
	"gristmill/queue"
	"gristmill/stack"
	"gristmill/table"
	"gristmill/tally"
)

type cells = object.Cells

// most is MaxValue, written out.
const most = 4294967295

// The kinds that there are, and numbers that are none; some would pass if they were cut to 32, or to 8, bits.
var (
	kinds   = []int{api.Queue, api.Stack, api.Deque, api.Heap, api.Table, api.Tally}
	noKinds = []int{0, -1, -api.Queue, -api.Tally, api.Tally + 1, api.Tally + 2, 1<<8 + 1, 1 << 32, 1<<32 + api.Tally, math.MinInt, math.MinInt + 1, math.MaxInt}
)

// Operations that aren't Right: each bound is gone beyond by one, and far.
var wrongOps = []api.Op{
	{}, {What: 0, Key: 1, Value: 1}, {What: -1}, {What: 7}, {What: 1<<32 + 1}, {What: math.MinInt}, {What: math.MaxInt},
	{What: api.Put, Key: -1}, {What: api.Take, Key: 1001}, {What: api.Count, Key: 1001}, {What: api.Peek, Key: math.MaxInt}, {What: api.Count, Key: math.MinInt},
	{What: api.Put, Value: -1}, {What: api.Put, Value: most + 1}, {What: api.Count, Value: -1}, {What: api.Take, Value: math.MaxInt}, {What: api.Front, Value: math.MinInt},
}

// full has just as many keys as there is room for: 3, 11 and 19 would all stand in slot 7, and 5 had to go on because of them; slots 3 and 4 are free.
var full = cells{0: 11, 1: 2, 2: 19, 3: 3, 4: 5, 5: 5, 10: 1, 11: 6, 12: 6, 13: 4, 14: 3, 15: 1}

// asked is an operation (What, Key, Value), the answer to it (Code, Value), and what the words and the Size are then.
type asked struct {
	what, key, value int
	code, told       int
	want             cells
	size             int
}

// tell does one operation behind the other, from an object on.
func tell(t *testing.T, kind int, c cells, story ...asked) {
	t.Helper()
	for i, s := range story {
		o, want := api.Op{What: s.what, Key: s.key, Value: s.value}, api.Answer{Code: s.code, Value: s.told}
		before := c
		got, a, err := object.Do(kind, c, o)
		if got != s.want || a != want || err != nil {
			t.Errorf("kind %d, number %d: Do(%v, %v): %v, %v, %v: want %v, %v", kind, i, c, o, got, a, err, s.want, want)
		}
		if again, b, err := object.Do(kind, c, o); again != got || b != a || err != nil {
			t.Errorf("kind %d, number %d: Do(%v, %v) once more: %v, %v, %v: want %v, %v", kind, i, c, o, again, b, err, got, a)
		}
		if c != before {
			t.Errorf("kind %d, number %d: Do(%v, %v): what was handed in is %v", kind, i, before, o, c)
		}
		for range 2 {
			if n, err := object.Size(kind, got); n != s.size || err != nil {
				t.Errorf("kind %d, number %d: Size(%v): %d, %v: want %d", kind, i, got, n, err, s.size)
			}
		}
		if !object.Right(kind, got) {
			t.Errorf("kind %d, number %d: Right(%v): false", kind, i, got)
		}
		c = got
	}
}

// refused asks for zero values, and for ErrArg without a place, each time.
func refused(t *testing.T, kind int, c cells, o api.Op) {
	t.Helper()
	for range 2 {
		before := c
		got, a, err := object.Do(kind, c, o)
		var at *api.At
		if got != (cells{}) || a != (api.Answer{}) || api.Tell(err) != api.ErrArg || errors.As(err, &at) {
			t.Errorf("kind %d: Do(%v, %v): %v, %v, %v: want zero values and ErrArg", kind, c, o, got, a, err)
		}
		if c != before {
			t.Errorf("kind %d: Do(%v, %v): what was handed in is %v", kind, before, o, c)
		}
	}
}

// sizeRefused asks for 0, and for ErrArg, likewise.
func sizeRefused(t *testing.T, kind int, c cells) {
	t.Helper()
	for range 2 {
		n, err := object.Size(kind, c)
		var at *api.At
		if n != 0 || api.Tell(err) != api.ErrArg || errors.As(err, &at) {
			t.Errorf("kind %d: Size(%v): %d, %v: want 0 and ErrArg", kind, c, n, err)
		}
	}
}

func TestIsAndName(t *testing.T) {
	for kind, name := range map[int]string{1: "queue", 2: "stack", 3: "deque", 4: "heap", 5: "table", 6: "tally"} {
		if !object.Is(kind) || object.Name(kind) != name {
			t.Errorf("%d: Is %v, Name %q: want %q", kind, object.Is(kind), object.Name(kind), name)
		}
	}
	for _, kind := range noKinds {
		if object.Is(kind) || object.Name(kind) != "?" {
			t.Errorf("%d: Is %v, Name %q: want false, ?", kind, object.Is(kind), object.Name(kind))
		}
	}
}

func TestQueue(t *testing.T) {
	tell(t, api.Queue, cells{},
		asked{api.Count, 0, 0, api.Done, 0, cells{}, 0},
		asked{api.Take, 0, 0, api.Empty, 0, cells{}, 0},
		asked{api.Peek, 0, 0, api.Empty, 0, cells{}, 0},
		asked{api.Put, 0, 5, api.Done, 0, cells{1, 5}, 1},
		asked{api.Put, 3, 8, api.Done, 0, cells{2, 5, 8}, 2},
		asked{api.Peek, 0, 0, api.Done, 5, cells{2, 5, 8}, 2},
		asked{api.Front, 0, 1, api.Wrong, 0, cells{2, 5, 8}, 2},
		asked{api.Back, 0, 0, api.Wrong, 0, cells{2, 5, 8}, 2},
		asked{api.Put, 0, 3, api.Done, 0, cells{3, 5, 8, 3}, 3},
		asked{api.Count, 7, 7, api.Done, 3, cells{3, 5, 8, 3}, 3},
		asked{api.Take, 0, 0, api.Done, 5, cells{2, 8, 3}, 2},
		asked{api.Take, 0, 0, api.Done, 8, cells{1, 3}, 1},
		asked{api.Take, 0, 0, api.Done, 3, cells{}, 0},
		asked{api.Take, 0, 0, api.Empty, 0, cells{}, 0},
	)
}

func TestStack(t *testing.T) {
	tell(t, api.Stack, cells{},
		asked{api.Take, 0, 0, api.Empty, 0, cells{}, 0},
		asked{api.Put, 0, 5, api.Done, 0, cells{1, 5}, 1},
		asked{api.Put, 0, 8, api.Done, 0, cells{2, 5, 8}, 2},
		asked{api.Peek, 0, 0, api.Done, 8, cells{2, 5, 8}, 2},
		asked{api.Put, 0, 3, api.Done, 0, cells{3, 5, 8, 3}, 3},
		asked{api.Front, 0, 1, api.Wrong, 0, cells{3, 5, 8, 3}, 3},
		asked{api.Back, 0, 0, api.Wrong, 0, cells{3, 5, 8, 3}, 3},
		asked{api.Take, 0, 0, api.Done, 3, cells{2, 5, 8}, 2},
		asked{api.Count, 0, 0, api.Done, 2, cells{2, 5, 8}, 2},
		asked{api.Take, 0, 0, api.Done, 8, cells{1, 5}, 1},
		asked{api.Take, 0, 0, api.Done, 5, cells{}, 0},
		asked{api.Peek, 0, 0, api.Empty, 0, cells{}, 0},
	)
}

func TestDeque(t *testing.T) {
	tell(t, api.Deque, cells{},
		asked{api.Back, 0, 0, api.Empty, 0, cells{}, 0},
		asked{api.Front, 0, 5, api.Done, 0, cells{1, 5}, 1},
		asked{api.Put, 0, 8, api.Done, 0, cells{2, 5, 8}, 2},
		asked{api.Front, 0, 3, api.Done, 0, cells{3, 3, 5, 8}, 3},
		asked{api.Peek, 0, 0, api.Done, 3, cells{3, 3, 5, 8}, 3},
		asked{api.Count, 0, 0, api.Done, 3, cells{3, 3, 5, 8}, 3},
		asked{api.Back, 0, 0, api.Done, 8, cells{2, 3, 5}, 2},
		asked{api.Take, 0, 0, api.Done, 3, cells{1, 5}, 1},
		asked{api.Back, 0, 0, api.Done, 5, cells{}, 0},
		asked{api.Take, 0, 0, api.Empty, 0, cells{}, 0},
	)
}

func TestHeap(t *testing.T) {
	tell(t, api.Heap, cells{},
		asked{api.Peek, 0, 0, api.Empty, 0, cells{}, 0},
		asked{api.Put, 0, 5, api.Done, 0, cells{1, 5}, 1},
		asked{api.Put, 0, 8, api.Done, 0, cells{2, 5, 8}, 2},
		asked{api.Put, 0, 3, api.Done, 0, cells{3, 3, 8, 5}, 3},
		asked{api.Put, 0, 9, api.Done, 0, cells{4, 3, 8, 5, 9}, 4},
		asked{api.Put, 0, 6, api.Done, 0, cells{5, 3, 6, 5, 9, 8}, 5},
		asked{api.Put, 0, 1, api.Done, 0, cells{6, 1, 6, 3, 9, 8, 5}, 6},
		asked{api.Put, 0, 0, api.Full, 0, cells{6, 1, 6, 3, 9, 8, 5}, 6},
		asked{api.Front, 0, 0, api.Wrong, 0, cells{6, 1, 6, 3, 9, 8, 5}, 6},
		asked{api.Take, 0, 0, api.Done, 1, cells{5, 3, 6, 5, 9, 8}, 5},
		asked{api.Peek, 0, 0, api.Done, 3, cells{5, 3, 6, 5, 9, 8}, 5},
		asked{api.Take, 0, 0, api.Done, 3, cells{4, 5, 6, 8, 9}, 4},
		asked{api.Count, 0, 0, api.Done, 4, cells{4, 5, 6, 8, 9}, 4},
	)
}

func TestTable(t *testing.T) {
	tell(t, api.Table, cells{},
		asked{api.Count, 0, 0, api.Done, 0, cells{}, 0},
		asked{api.Peek, 3, 0, api.Absent, 0, cells{}, 0},
		asked{api.Put, 3, 7, api.Done, 0, cells{14: 3, 15: 7}, 1},
		asked{api.Put, 11, 9, api.Done, 0, cells{0: 11, 1: 9, 14: 3, 15: 7}, 2},
		asked{api.Put, 0, 9, api.Wrong, 0, cells{0: 11, 1: 9, 14: 3, 15: 7}, 2},
		asked{api.Take, 0, 0, api.Wrong, 0, cells{0: 11, 1: 9, 14: 3, 15: 7}, 2},
		asked{api.Front, 3, 9, api.Wrong, 0, cells{0: 11, 1: 9, 14: 3, 15: 7}, 2},
		asked{api.Peek, 11, 0, api.Done, 9, cells{0: 11, 1: 9, 14: 3, 15: 7}, 2},
		asked{api.Put, 3, 0, api.Done, 0, cells{0: 11, 1: 9, 14: 3}, 2},
		asked{api.Put, 7, most, api.Done, 0, cells{0: 11, 1: 9, 6: 7, 7: most, 14: 3}, 3},
		asked{api.Take, 3, 0, api.Done, 0, cells{6: 7, 7: most, 14: 11, 15: 9}, 2},
		asked{api.Take, 3, 0, api.Absent, 0, cells{6: 7, 7: most, 14: 11, 15: 9}, 2},
		asked{api.Take, 7, 0, api.Done, most, cells{14: 11, 15: 9}, 1},
		asked{api.Take, 11, 0, api.Done, 9, cells{}, 0},
	)
	left := cells{0: 11, 1: 2, 2: 19, 3: 3, 4: 5, 5: 5, 10: 1, 11: 6, 14: 3, 15: 1}
	tell(t, api.Table, full,
		asked{api.Put, 2, 7, api.Full, 0, full, 6},
		asked{api.Count, 1000, 0, api.Done, 6, full, 6},
		asked{api.Take, 6, 0, api.Done, 4, left, 5},
		asked{api.Put, 6, 4, api.Done, 0, full, 6},
	)
}

func TestTally(t *testing.T) {
	tell(t, api.Tally, cells{},
		asked{api.Count, 0, 0, api.Done, 0, cells{}, 0},
		asked{api.Take, 0, 1, api.Empty, 0, cells{}, 0},
		asked{api.Put, 0, 5, api.Done, 0, cells{5}, 5},
		asked{api.Put, 9, 7, api.Done, 5, cells{12}, 12},
		asked{api.Peek, 0, 0, api.Done, 12, cells{12}, 12},
		asked{api.Back, 0, 0, api.Wrong, 0, cells{12}, 12},
		asked{api.Put, 0, most, api.Full, 0, cells{12}, 12},
		asked{api.Put, 0, most - 12, api.Done, 12, cells{most}, most},
		asked{api.Count, 0, 0, api.Done, most, cells{most}, most},
		asked{api.Put, 0, 1, api.Full, 0, cells{most}, most},
		asked{api.Take, 0, most, api.Done, most, cells{}, 0},
	)
}

// TestRoom: lists have Room things, and no more; the least and the greatest value are words like others.
func TestRoom(t *testing.T) {
	five, six := cells{5, 0, most, 0, most, 0}, cells{6, 0, most, 0, most, 0, 4}
	for _, kind := range []int{api.Queue, api.Stack, api.Deque} {
		tell(t, kind, five, asked{api.Put, 0, 4, api.Done, 0, six, 6}, asked{api.Put, 0, 4, api.Full, 0, six, 6}, asked{api.Count, 0, 4, api.Done, 6, six, 6})
	}
	tell(t, api.Deque, six, asked{api.Front, 0, 4, api.Full, 0, six, 6}, asked{api.Back, 0, 4, api.Done, 4, five, 5}, asked{api.Back, 0, 4, api.Done, 0, cells{4, 0, most, 0, most}, 4})
	tell(t, api.Stack, six, asked{api.Take, 0, 4, api.Done, 4, five, 5}, asked{api.Take, 0, 4, api.Done, 0, cells{4, 0, most, 0, most}, 4}, asked{api.Take, 0, 4, api.Done, most, cells{3, 0, most, 0}, 3})
	tell(t, api.Queue, six, asked{api.Take, 0, 4, api.Done, 0, cells{5, most, 0, most, 0, 4}, 5}, asked{api.Take, 0, 4, api.Done, most, cells{4, 0, most, 0, 4}, 4})
	tell(t, api.Heap, cells{5, 0, most, 0, most, most}, asked{api.Put, 0, most, api.Done, 0, cells{6, 0, most, 0, most, most, most}, 6}, asked{api.Put, 0, 1, api.Full, 0, cells{6, 0, most, 0, most, most, most}, 6})
}

// TestRightLists: what the words of a queue, a stack and a deque, and so of a heap, may be.
func TestRightLists(t *testing.T) {
	for _, c := range []struct {
		c           cells
		right, heap bool
	}{
		{cells{}, true, true},
		{cells{1, 5}, true, true},
		{cells{1, 0}, true, true},
		{cells{1, most}, true, true},
		{cells{1, most + 1}, false, false},
		{cells{1, 1 << 63}, false, false},
		{cells{1, math.MaxUint64}, false, false},
		{cells{6, 1, 2, 3, 4, 5, 6}, true, true},
		{cells{6, 0, 0, 0, 0, 0, 0}, true, true},
		{cells{6, most, most, most, most, most, most}, true, true},
		{cells{6, 1, 2, 3, 4, 5, most + 1}, false, false},
		{cells{6, most + 1, most + 1, most + 1, most + 1, most + 1, most + 1}, false, false},

		// In order or not.
		{cells{2, 5, 5}, true, true},
		{cells{2, 8, 5}, true, false},
		{cells{3, 3, 8, 5}, true, true},
		{cells{3, 3, 5, 2}, true, false},
		{cells{4, 3, 8, 5, 8}, true, true},
		{cells{4, 3, 8, 5, 7}, true, false},
		{cells{5, 3, 8, 5, 9, 7}, true, false},
		{cells{6, 1, 6, 3, 9, 8, 3}, true, true},
		{cells{6, 1, 6, 3, 9, 8, 2}, true, false},
		{cells{6, most, 0, 0, 0, 0, 0}, true, false},

		// More than Room.
		{cells{7, 1, 2, 3, 4, 5, 6, 7}, false, false},
		{cells{7}, false, false},
		{cells{7, 0, 0, 0, 0, 0, 0, 0}, false, false},
		{cells{16}, false, false},
		{cells{17}, false, false},
		{cells{18}, false, false},
		{cells{1 << 32}, false, false},
		{cells{1<<32 + 1, 5}, false, false},
		{cells{1 << 63}, false, false},
		{cells{1<<63 + 1, 5}, false, false},
		{cells{math.MaxInt64}, false, false},
		{cells{math.MaxUint64}, false, false},
		{cells{math.MaxUint64 - 5, 1, 2, 3, 4, 5, 6}, false, false},

		// Something behind the last one.
		{cells{0, 1}, false, false},
		{cells{0, math.MaxUint64}, false, false},
		{cells{1, 5, 1}, false, false},
		{cells{1, 5, 6: 1}, false, false},
		{cells{1, 5, 7: 1}, false, false},
		{cells{1, 5, 16: 1}, false, false},
		{cells{5, 1, 2, 3, 4, 5, 6}, false, false},
		{cells{6, 1, 2, 3, 4, 5, 6, 1}, false, false},
		{cells{6, 1, 2, 3, 4, 5, 6, 16: 1}, false, false},
		{cells{6, 1, 2, 3, 4, 5, 6, 16: 1 << 63}, false, false},
		{cells{16: 1}, false, false},
	} {
		for _, kind := range []int{api.Queue, api.Stack, api.Deque} {
			ask(t, kind, c.c, c.right)
		}
		ask(t, api.Heap, c.c, c.heap)
	}
}

func TestRightTables(t *testing.T) {
	for _, c := range []struct {
		c     cells
		right bool
	}{
		{cells{}, true},
		{cells{14: 3, 15: 7}, true},
		{cells{14: 3, 15: 0}, true},
		{cells{14: 3, 15: most}, true},
		{cells{14: 3, 15: most + 1}, false},
		{cells{14: 3, 15: 1 << 63}, false},
		{cells{14: 3, 15: math.MaxUint64}, false},
		{cells{0: 1000, 1: 1}, true},
		{full, true},
		{cells{0: 8, 2: 5, 4: 2, 6: 7, 8: 4, 10: 1}, true},
		{cells{0: 8, 2: 5, 4: 2, 6: 7, 8: 4, 10: 1, 12: 6}, false},
		{cells{0: 8, 2: 5, 4: 2, 6: 7, 8: 4, 10: 1, 12: 6, 14: 3}, false},

		// Keys that there are not, each where it would stand.
		{cells{10: 1001, 11: 1}, false},
		{cells{14: 1<<32 + 3, 15: 1}, false},
		{cells{0: 1 << 63}, false},
		{cells{14: 1<<63 + 3}, false},
		{cells{6: math.MaxUint64}, false},
		{cells{6: math.MaxInt64}, false},

		// A value in a free slot.
		{cells{1: 1}, false},
		{cells{15: 1}, false},
		{cells{15: math.MaxUint64}, false},
		{cells{1: 1 << 63, 14: 3}, false},

		// A free slot ahead, or the same key twice.
		{cells{0: 3, 1: 7}, false},
		{cells{12: 3, 13: 7}, false},
		{cells{0: 11, 1: 9, 14: 3, 15: 7}, true},
		{cells{2: 11, 3: 9, 14: 3, 15: 7}, false},
		{cells{0: 3, 1: 9, 14: 3, 15: 7}, false},
		{cells{0: 3, 1: 7, 14: 3, 15: 7}, false},

		// The last word.
		{cells{16: 1}, false},
		{cells{14: 3, 15: 7, 16: 1}, false},
		{cells{14: 3, 15: 7, 16: math.MaxUint64}, false},
		{cells{16: 3}, false},
	} {
		ask(t, api.Table, c.c, c.right)
	}
}

func TestRightTallies(t *testing.T) {
	for _, c := range []struct {
		c     cells
		right bool
	}{
		{cells{}, true}, {cells{1}, true}, {cells{7}, true}, {cells{most - 1}, true}, {cells{most}, true},
		{cells{most + 1}, false}, {cells{most + 2}, false}, {cells{1 << 63}, false}, {cells{1<<63 + 1}, false}, {cells{math.MaxInt64}, false}, {cells{math.MaxUint64}, false},
		{cells{0, 1}, false}, {cells{5, 1}, false}, {cells{5, 8: 1}, false}, {cells{5, 16: 1}, false}, {cells{16: 1}, false}, {cells{5, math.MaxUint64}, false},
	} {
		ask(t, api.Tally, c.c, c.right)
	}
}

// ask asks whether words are an object of a kind: Do and Size are refused just if they aren't.
func ask(t *testing.T, kind int, c cells, right bool) {
	t.Helper()
	for range 2 {
		if got := object.Right(kind, c); got != right {
			t.Errorf("Right(%d, %v): %v", kind, c, got)
		}
	}
	for what := api.Put; what <= api.Count; what++ {
		for _, o := range []api.Op{{What: what, Key: 3, Value: 7}, {What: what}} {
			if !right {
				refused(t, kind, c, o)
			} else {
				held(t, kind, c, o)
			}
		}
	}
	if !right {
		sizeRefused(t, kind, c)
	}
}

// held asks for what the object of that kind itself comes to, and its answer, and its Size.
func held(t *testing.T, kind int, c cells, o api.Op) (cells, api.Answer) {
	t.Helper()
	want, answer := done(kind, c, o)
	_, count := done(kind, want, api.Op{What: api.Count})
	tell(t, kind, c, asked{o.What, o.Key, o.Value, answer.Code, answer.Value, want, count.Value})
	if answer.Code != api.Done && want != c {
		t.Errorf("kind %d: of %v, %v: %v, but the words are %v", kind, c, o, answer, want)
	}
	return want, answer
}

// done is what is done with an object that is Right, by the packages of its kind.
func done(kind int, c cells, o api.Op) (cells, api.Answer) {
	switch kind {
	case 5:
		return doneByTable(c, o)
	case 6:
		n, a := tally.Do(int(c[0]), o)
		return cells{uint64(n)}, a
	}
	l := make([]int, c[0])
	for i := range l {
		l[i] = int(c[i+1])
	}
	do := []func([]int, api.Op) ([]int, api.Answer){1: queue.Do, 2: stack.Do, 3: deque.Do, 4: heap.Do}[kind]
	l, a := do(l, o)
	want := cells{uint64(len(l))}
	for i, x := range l {
		want[i+1] = uint64(x)
	}
	return want, a
}

func doneByTable(c cells, o api.Op) (cells, api.Answer) {
	var s table.Slots
	for i, w := range c[:16] {
		if i%2 == 0 {
			s[i/2].Key = int(w)
		} else {
			s[i/2].Value = int(w)
		}
	}
	s, a := table.Do(s, o)
	var want cells
	for i, x := range s {
		want[i*2], want[i*2+1] = uint64(x.Key), uint64(x.Value)
	}
	return want, a
}

// rightly is what the document says of words, word by word.
func rightly(kind int, c cells) bool {
	switch kind {
	case 1, 2, 3:
		return rightList(c)
	case 4:
		for above, belows := range map[int][]int{1: {2, 3}, 2: {4, 5}, 3: {6}} {
			for _, b := range belows {
				if rightList(c) && uint64(b) <= c[0] && c[b] < c[above] {
					return false
				}
			}
		}
		return rightList(c)
	case 5:
		return rightTable(c)
	case 6:
		for _, w := range c[1:] {
			if w != 0 {
				return false
			}
		}
		return c[0] <= most
	}
	return false
}

func rightList(c cells) bool {
	for i := 1; i < 17; i++ {
		if uint64(i) <= c[0] && c[i] > most || uint64(i) > c[0] && c[i] != 0 {
			return false
		}
	}
	return c[0] <= 6
}

func rightTable(c cells) bool {
	n := 0
	for i := range 8 {
		key, value := c[2*i], c[2*i+1]
		if key > 1000 || value > most || key == 0 && value != 0 {
			return false
		}
		if key == 0 {
			continue
		}
		n++
		for at := 5 * key % 8; at != uint64(i); at = (at + 1) % 8 {
			if c[2*at] == 0 || c[2*at] == key {
				return false
			}
		}
	}
	return n <= 6 && c[16] == 0
}

// someObjects are Right, of one kind or another, with nothing, with one, with some and with Room things.
var someObjects = []cells{
	{}, {1, 5}, {1, 0}, {2, 5, 8}, {2, 8, 5}, {3, 3, 8, 5}, {5, 1, 2, 3, 4, 5}, {6, 1, 6, 3, 9, 8, 5}, {6, 9, 8, 7, 6, 5, 4}, {6, 0, 0, 0, 0, 0, 0}, {6, most, most, most, most, most, most},
	{14: 3, 15: 7}, {0: 11, 1: 9, 14: 3, 15: 7}, full, {0: 8, 2: 5, 4: 2, 6: 7, 8: 4, 10: 1}, {0: 8, 2: 5, 4: 2, 6: 7, 8: 4},
	{7}, {most - 1}, {most},
}

// TestEachWordChanged: of objects each word is made another one, and what comes of it is asked of each kind.
func TestEachWordChanged(t *testing.T) {
	words := []uint64{0, 1, 2, 3, 5, 6, 7, 8, 11, 16, 17, 1000, 1001, most - 1, most, most + 1, 1<<32 + 3, math.MaxInt64, 1 << 63, 1<<63 + 3, math.MaxUint64}
	seen := map[bool]int{}
	for _, c := range someObjects {
		for at := range c {
			for _, w := range words {
				other := c
				other[at] = w
				for _, kind := range kinds {
					right := rightly(kind, other)
					seen[right]++
					ask(t, kind, other, right)
				}
				for _, kind := range noKinds {
					if object.Right(kind, other) {
						t.Errorf("Right(%d, %v): true", kind, other)
					}
				}
			}
		}
	}
	if seen[true] < 1000 || seen[false] < 1000 {
		t.Errorf("Right or not: %v: too few to tell", seen)
	}
}

// TestEachSmallList goes through all lists of small numbers, of up to one more than there is room for, with a number that tells how many there are that is so, and one less and one more.
func TestEachSmallList(t *testing.T) {
	var more func(c cells, n int)
	more = func(c cells, n int) {
		for _, count := range []int{n, n - 1, n + 1} {
			c[0] = uint64(count)
			for _, kind := range []int{api.Queue, api.Stack, api.Deque, api.Heap} {
				if got := object.Right(kind, c); got != rightly(kind, c) {
					t.Errorf("Right(%d, %v): %v", kind, c, got)
				}
			}
		}
		for x := uint64(0); x < 3 && n < 7; x++ {
			c[n+1] = x
			more(c, n+1)
		}
	}
	more(cells{}, 0)
}

func TestNoSuchKind(t *testing.T) {
	for _, kind := range noKinds {
		for _, c := range someObjects {
			ask(t, kind, c, false)
		}
	}
}

// TestOperationsThatAreNot: they are refused of every object, also where nothing else is wrong, and where all is.
func TestOperationsThatAreNot(t *testing.T) {
	for _, o := range wrongOps {
		for _, c := range someObjects {
			for _, kind := range kinds {
				refused(t, kind, c, o)
			}
			refused(t, 0, c, o)
			refused(t, api.Tally+1, c, o)
		}
		refused(t, api.Queue, cells{7}, o)
	}
}

// TestLongStories does one operation behind the other with objects of each kind, so that they are filled and emptied again.
func TestLongStories(t *testing.T) {
	draw := uint64(11)
	next := func(n int) int {
		draw = draw*6364136223846793005 + 1442695040888963407
		return int((draw >> 33) % uint64(n))
	}
	values := []int{0, 1, 2, 3, 7, 1 << 31, most - 3, most}
	codes := map[int][]int{
		api.Queue: {api.Done, api.Empty, api.Full, api.Wrong}, api.Stack: {api.Done, api.Empty, api.Full, api.Wrong}, api.Deque: {api.Done, api.Empty, api.Full},
		api.Heap: {api.Done, api.Empty, api.Full, api.Wrong}, api.Table: {api.Done, api.Absent, api.Full, api.Wrong}, api.Tally: {api.Done, api.Empty, api.Full, api.Wrong},
	}
	for _, kind := range kinds {
		seen := map[int]int{}
		for range 40 {
			var c cells
			for range 100 {
				o := api.Op{What: []int{1, 1, 1, 1, 2, 2, 2, 3, 4, 5, 6}[next(11)], Key: next(12), Value: values[next(len(values))]}
				var a api.Answer
				c, a = held(t, kind, c, o)
				seen[a.Code]++
				if next(10) == 0 {
					refused(t, kind, c, wrongOps[next(len(wrongOps))])
				}
			}
		}
		for _, code := range codes[kind] {
			if seen[code] < 20 {
				t.Errorf("kind %d: code %d was answered %d times: too seldom to tell", kind, code, seen[code])
			}
		}
	}
}

// TestTwoWaysFromOne: what is done with an object is not seen in another that came of the same one.
func TestTwoWaysFromOne(t *testing.T) {
	for _, kind := range kinds {
		from, _, _ := object.Do(kind, cells{}, api.Op{What: api.Put, Key: 3, Value: 4})
		kept := from
		one, _, _ := object.Do(kind, from, api.Op{What: api.Put, Key: 11, Value: 5})
		two, _, _ := object.Do(kind, from, api.Op{What: api.Put, Key: 11, Value: 6})
		none, _, _ := object.Do(kind, from, api.Op{What: api.Take, Key: 3, Value: 4})
		if from != kept || one == two || one == from || none != (cells{}) {
			t.Errorf("kind %d: from %v, which was %v: %v, %v and %v", kind, from, kept, one, two, none)
		}
	}
}
