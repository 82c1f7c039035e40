// Package lists has tests alone: what the objects that are lists promise alike, each asked the same.
package lists

import (
	"math"
	"slices"
	"testing"

	"gristmill/api"
	"gristmill/deque"
	"gristmill/heap"
	"gristmill/queue"
	"gristmill/stack"
)

// kind is an object that is a list: what it does, and what the document tells of it.
type kind struct {
	name string
	do   func([]int, api.Op) ([]int, api.Answer)
	told func([]int, api.Op) ([]int, api.Answer)
}

var kinds = []kind{
	{"queue", queue.Do, toldOfQueue},
	{"stack", stack.Do, toldOfStack},
	{"deque", deque.Do, toldOfDeque},
	{"heap", heap.Do, toldOfHeap},
}

// full has just as many as there is room for.
var full = []int{4, 9, 2, 7, 5, 8}

// Lists of each length about Room, no two things of one alike, so that none passes for another; some that are heaps; and such as no object has, of which nothing else is told.
var someLists = [][]int{
	nil, {}, {4}, {0}, {4, 9}, {0, 4294967295}, {4294967295, 0, 4294967294}, full[:4], full[:5], full,
	{1, 2, 3}, {1, 3, 2, 9}, {1, 2, 2, 5, 6}, {2, 4, 3, 9, 7, 8}, {0, 0, 4294967295, 0, 1, 4294967295},
	{4, 9, 2, 7, 5, 8, 3}, {4, 9, 2, 7, 5, 8, 3, 1, 60}, {-1, math.MinInt, math.MaxInt},
}

// What there is not, and some that would pass if they were cut to 32, or to 8, bits.
var wrongWhats = []int{
	0, -1, -2, -api.Front, -api.Count, api.Count + 1, api.Count + 2, 1<<8 + api.Put, 1<<8 + api.Back,
	1<<32 + api.Put, 1<<32 + api.Take, 1<<32 + api.Front, math.MinInt, math.MinInt + api.Take, math.MinInt + api.Back, math.MaxInt,
}

// Values (and keys) at the edges, and such as no operation that is right has: lists ask nothing of them.
var someValues = []int{0, 1, 7, 1000, 1001, 1<<31 - 1, 1 << 31, api.MaxValue - 1, api.MaxValue, api.MaxValue + 1, -1, math.MinInt, math.MaxInt}

// told is what the document's words say of an operation, in plain numbers; that one which Take and Peek tell stands at a place.
func told(l []int, o api.Op, at int) ([]int, api.Answer) {
	n := len(l)
	switch {
	case o.What == 1 && n >= 6:
		return l, api.Answer{Code: 3}
	case o.What == 1:
		return slices.Concat(l, []int{o.Value}), api.Answer{Code: 1}
	case (o.What == 2 || o.What == 5) && n == 0:
		return l, api.Answer{Code: 2}
	case o.What == 2:
		return slices.Concat(l[:at], l[at+1:]), api.Answer{Code: 1, Value: l[at]}
	case o.What == 5:
		return l, api.Answer{Code: 1, Value: l[at]}
	case o.What == 6:
		return l, api.Answer{Code: 1, Value: n}
	}
	return l, api.Answer{Code: 5}
}

func toldOfQueue(l []int, o api.Op) ([]int, api.Answer) { return told(l, o, 0) }

func toldOfStack(l []int, o api.Op) ([]int, api.Answer) { return told(l, o, len(l)-1) }

// toldOfDeque: Front and Back are of it too.
func toldOfDeque(l []int, o api.Op) ([]int, api.Answer) {
	n := len(l)
	switch {
	case o.What == 3 && n >= 6:
		return l, api.Answer{Code: 3}
	case o.What == 3:
		return slices.Concat([]int{o.Value}, l), api.Answer{Code: 1}
	case o.What == 4 && n == 0:
		return l, api.Answer{Code: 2}
	case o.What == 4:
		return l[:n-1], api.Answer{Code: 1, Value: l[n-1]}
	}
	return toldOfQueue(l, o)
}

// toldOfHeap goes by the document's words also where a list is not Right: of such nothing is promised but that the call ends and leaves the list alone, and its words have a meaning there too.
func toldOfHeap(l []int, o api.Op) ([]int, api.Answer) {
	more, a := toldOfQueue(l, o)
	switch {
	case a.Code == 1 && o.What == 1:
		return risen(more, len(more)-1), a
	case a.Code == 1 && o.What == 2 && len(more) > 0:
		last := len(more) - 1
		return sunk(slices.Concat(more[last:], more[:last]), 0), a
	}
	return more, a
}

// risen is a list whose one at a place went up, change by change.
func risen(l []int, i int) []int {
	if i == 0 || l[i] >= l[(i-1)/2] {
		return l
	}
	return risen(changed(l, i, (i-1)/2), (i-1)/2)
}

// sunk is a list whose one at a place went down, change by change.
func sunk(l []int, i int) []int {
	lesser, n := -1, len(l)
	for _, c := range []int{2*i + 2, 2*i + 1} {
		if c < n && (lesser < 0 || l[c] <= l[lesser]) {
			lesser = c
		}
	}
	if lesser < 0 || l[lesser] >= l[i] {
		return l
	}
	return sunk(changed(l, i, lesser), lesser)
}

// changed is a list of which two changed places.
func changed(l []int, i, j int) []int {
	c := slices.Clone(l)
	c[i], c[j] = l[j], l[i]
	return c
}

// spoil writes into all that a list has, and into what stands behind its length.
func spoil(l []int) {
	l = l[:cap(l)]
	for i := range l {
		l[i] = -77
	}
}

// handed is a copy of a list with some more behind its length, and all of it.
func handed(l []int, behind int) (given, whole []int) {
	if l == nil && behind == 0 {
		return nil, nil
	}
	whole = make([]int, len(l)+behind)
	for i := range whole {
		whole[i] = 1000 + i
	}
	copy(whole, l)
	return whole[:len(l)], whole
}

// ask does an operation with a list, and asks for what is told of it; neither what was handed in nor what comes of another call may feel it.
func ask(t *testing.T, k kind, l []int, o api.Op) {
	t.Helper()
	want, answer := k.told(l, o)
	for _, behind := range []int{0, 1, 5} {
		given, whole := handed(l, behind)
		before := slices.Clone(whole)
		one, a := k.do(given, o)
		two, b := k.do(given, o)
		if !slices.Equal(one, want) || a != answer {
			t.Errorf("%s.Do(%v, %v): %v, %v: want %v, %v", k.name, l, o, one, a, want, answer)
		}
		if !slices.Equal(two, want) || b != answer {
			t.Errorf("%s.Do(%v, %v) once more: %v, %v: want %v, %v", k.name, l, o, two, b, want, answer)
		}
		if !slices.Equal(whole, before) {
			t.Errorf("%s.Do(%v, %v): what was handed in is %v, and was %v", k.name, l, o, whole, before)
		}
		if spoil(one); !slices.Equal(whole, before) || !slices.Equal(two, want) {
			t.Errorf("%s.Do(%v, %v): what came out shares memory with what was handed in, or came out again", k.name, l, o)
		}
		if spoil(given); !slices.Equal(two, want) {
			t.Errorf("%s.Do(%v, %v): what came out shares memory with what was handed in", k.name, l, o)
		}
	}
}

// TestEachOfEach asks for every operation with every list.
func TestEachOfEach(t *testing.T) {
	whats := slices.Concat([]int{api.Put, api.Take, api.Front, api.Back, api.Peek, api.Count}, wrongWhats)
	for _, k := range kinds {
		for _, l := range someLists {
			for _, what := range whats {
				for _, n := range someValues {
					ask(t, k, l, api.Op{What: what, Value: n})
					ask(t, k, l, api.Op{What: what, Key: n})
					ask(t, k, l, api.Op{What: what, Key: 3, Value: n})
				}
			}
		}
	}
}

// TestEachLength goes from none to far more than there is room for.
func TestEachLength(t *testing.T) {
	for _, k := range kinds {
		var l []int
		for n := range 40 {
			for what := range 8 {
				ask(t, k, l, api.Op{What: what, Value: 5})
			}
			l = append(l, 100+n)
		}
	}
}

// TestTwoWaysFromOne: what is done with one list is not seen in another that came of the same one.
func TestTwoWaysFromOne(t *testing.T) {
	for _, k := range kinds {
		from, _ := k.do([]int{1, 2}, api.Op{What: api.Put, Value: 3})
		kept := slices.Clone(from)
		one, _ := k.do(from, api.Op{What: api.Put, Value: 4})
		two, _ := k.do(from, api.Op{What: api.Put, Value: 5})
		rest, _ := k.do(from, api.Op{What: api.Take})
		left := slices.Clone(rest)
		three, _ := k.do(rest, api.Op{What: api.Put, Value: 6})
		for _, c := range []struct{ got, want []int }{
			{from, []int{1, 2, 3}}, {from, kept}, {one, []int{1, 2, 3, 4}}, {two, []int{1, 2, 3, 5}}, {rest, left}, {three, append(left, 6)},
		} {
			if !slices.Equal(c.got, c.want) {
				t.Errorf("%s: %v, want %v", k.name, c.got, c.want)
			}
		}
	}
}

// TestLongStories does one operation behind the other, so that lists are filled and emptied again.
func TestLongStories(t *testing.T) {
	draw := uint64(5)
	next := func(n int) int {
		draw = draw*6364136223846793005 + 1442695040888963407
		return int((draw >> 33) % uint64(n))
	}
	whats := []int{1, 1, 1, 1, 2, 2, 2, 5, 6, 3, 4, 0, 7, -1}
	for _, k := range kinds {
		seen := map[int]int{}
		for range 60 {
			var l []int
			for range 100 {
				o := api.Op{What: whats[next(len(whats))], Key: next(3), Value: next(4)}
				ask(t, k, l, o)
				var a api.Answer
				l, a = k.do(l, o)
				seen[a.Code]++
			}
		}
		for _, code := range []int{api.Done, api.Empty, api.Full, api.Wrong} {
			if seen[code] < 50 {
				t.Errorf("%s: code %d was answered %d times: too seldom to tell", k.name, code, seen[code])
			}
		}
	}
}
