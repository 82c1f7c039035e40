// What heaps promise as other lists do (and that nothing that is handed in is written into, kept or shared) is asked in folder lists; here stands what is a heap's own, written out.
package heap_test

import (
	"math"
	"slices"
	"testing"

	"gristmill/api"
	"gristmill/heap"
)

// asked is an operation (What, Value), the answer to it (Code, Value), and what a heap is then.
type asked struct {
	what, value int
	code, told  int
	want        []int
}

// tell does one operation behind the other, from a heap on.
func tell(t *testing.T, l []int, story ...asked) {
	t.Helper()
	for i, c := range story {
		o, want := api.Op{What: c.what, Value: c.value}, api.Answer{Code: c.code, Value: c.told}
		got, a := heap.Do(l, o)
		if !slices.Equal(got, c.want) || a != want {
			t.Errorf("number %d: Do(%v, %v): %v, %v: want %v, %v", i, l, o, got, a, c.want, want)
		}
		l = got
	}
}

func TestInInAnyOrderOutRising(t *testing.T) {
	tell(t, nil,
		asked{api.Count, 0, api.Done, 0, nil},
		asked{api.Put, 5, api.Done, 0, []int{5}},
		asked{api.Put, 8, api.Done, 0, []int{5, 8}},
		asked{api.Put, 3, api.Done, 0, []int{3, 8, 5}},
		asked{api.Peek, 0, api.Done, 3, []int{3, 8, 5}},
		asked{api.Peek, 0, api.Done, 3, []int{3, 8, 5}},
		asked{api.Put, 9, api.Done, 0, []int{3, 8, 5, 9}},
		asked{api.Put, 6, api.Done, 0, []int{3, 6, 5, 9, 8}},
		asked{api.Count, 0, api.Done, 5, []int{3, 6, 5, 9, 8}},
		asked{api.Put, 1, api.Done, 0, []int{1, 6, 3, 9, 8, 5}},
		asked{api.Count, 0, api.Done, 6, []int{1, 6, 3, 9, 8, 5}},
		asked{api.Take, 0, api.Done, 1, []int{3, 6, 5, 9, 8}},
		asked{api.Take, 0, api.Done, 3, []int{5, 6, 8, 9}},
		asked{api.Peek, 0, api.Done, 5, []int{5, 6, 8, 9}},
		asked{api.Take, 0, api.Done, 5, []int{6, 9, 8}},
		asked{api.Take, 0, api.Done, 6, []int{8, 9}},
		asked{api.Take, 0, api.Done, 8, []int{9}},
		asked{api.Count, 0, api.Done, 1, []int{9}},
		asked{api.Take, 0, api.Done, 9, nil},
		asked{api.Take, 0, api.Empty, 0, nil},
		asked{api.Peek, 0, api.Empty, 0, nil},
		asked{api.Count, 0, api.Done, 0, nil},
	)
}

func TestEmpty(t *testing.T) {
	for _, l := range [][]int{nil, {}} {
		tell(t, l,
			asked{api.Take, 4, api.Empty, 0, nil},
			asked{api.Peek, 4, api.Empty, 0, nil},
			asked{api.Count, 4, api.Done, 0, nil},
			asked{api.Put, 4, api.Done, 0, []int{4}},
			asked{api.Take, 9, api.Done, 4, nil},
			asked{api.Take, 9, api.Empty, 0, nil},
		)
	}
}

// TestUp: one goes up as far as it is less, and not a place further.
func TestUp(t *testing.T) {
	for _, c := range []struct {
		from  []int
		value int
		want  []int
	}{
		{[]int{2}, 1, []int{1, 2}},
		{[]int{2}, 2, []int{2, 2}},
		{[]int{2}, 3, []int{2, 3}},
		{[]int{2, 5}, 1, []int{1, 5, 2}},
		{[]int{2, 5, 4}, 6, []int{2, 5, 4, 6}},
		{[]int{2, 5, 4}, 5, []int{2, 5, 4, 5}},
		{[]int{2, 5, 4}, 4, []int{2, 4, 4, 5}},
		{[]int{2, 5, 4}, 2, []int{2, 2, 4, 5}},
		{[]int{2, 5, 4}, 1, []int{1, 2, 4, 5}},
		{[]int{2, 5, 4, 6}, 3, []int{2, 3, 4, 6, 5}},
		{[]int{2, 5, 4, 6}, 0, []int{0, 2, 4, 6, 5}},
		{[]int{2, 5, 4, 6, 7}, 4, []int{2, 5, 4, 6, 7, 4}},
		{[]int{2, 5, 4, 6, 7}, 3, []int{2, 5, 3, 6, 7, 4}},
		{[]int{2, 5, 4, 6, 7}, 1, []int{1, 5, 2, 6, 7, 4}},
	} {
		tell(t, c.from, asked{api.Put, c.value, api.Done, 0, c.want})
	}
}

// TestDown: one goes down as long as the lesser one below it is less, of two alike by the first.
func TestDown(t *testing.T) {
	for _, c := range []struct{ from, want []int }{
		{[]int{1, 2}, []int{2}},
		{[]int{1, 3, 2}, []int{2, 3}},
		{[]int{1, 2, 3}, []int{2, 3}},
		{[]int{1, 2, 2}, []int{2, 2}},
		{[]int{1, 2, 3, 4}, []int{2, 4, 3}},
		{[]int{1, 3, 2, 4}, []int{2, 3, 4}},
		{[]int{1, 2, 2, 4}, []int{2, 4, 2}},
		{[]int{1, 2, 3, 2}, []int{2, 2, 3}},
		{[]int{1, 2, 2, 5, 6}, []int{2, 5, 2, 6}},
		{[]int{1, 2, 3, 6, 5}, []int{2, 5, 3, 6}},
		{[]int{1, 2, 2, 9, 8, 7}, []int{2, 7, 2, 9, 8}},
		{[]int{1, 2, 5, 4, 3, 6}, []int{2, 3, 5, 4, 6}},
		{[]int{1, 2, 5, 3, 3, 6}, []int{2, 3, 5, 6, 3}},
		{[]int{1, 2, 5, 3, 4, 6}, []int{2, 3, 5, 6, 4}},
		{[]int{1, 5, 2, 6, 7, 3}, []int{2, 5, 3, 6, 7}},
		{[]int{1, 1, 1, 1, 1, 1}, []int{1, 1, 1, 1, 1}},
	} {
		tell(t, c.from, asked{api.Take, 9, api.Done, 1, c.want})
	}
}

// TestRoom: a heap is full from Room on; what is taken makes room for one.
func TestRoom(t *testing.T) {
	tell(t, []int{1, 2, 3, 4, 5},
		asked{api.Put, 6, api.Done, 0, []int{1, 2, 3, 4, 5, 6}},
		asked{api.Put, 0, api.Full, 0, []int{1, 2, 3, 4, 5, 6}},
		asked{api.Put, 7, api.Full, 0, []int{1, 2, 3, 4, 5, 6}},
		asked{api.Count, 0, api.Done, 6, []int{1, 2, 3, 4, 5, 6}},
		asked{api.Peek, 0, api.Done, 1, []int{1, 2, 3, 4, 5, 6}},
		asked{api.Take, 0, api.Done, 1, []int{2, 4, 3, 6, 5}},
		asked{api.Put, 0, api.Done, 0, []int{0, 4, 2, 6, 5, 3}},
		asked{api.Put, 0, api.Full, 0, []int{0, 4, 2, 6, 5, 3}},
	)
	more := []int{1, 2, 3, 4, 5, 6, 7}
	tell(t, more, asked{api.Put, 8, api.Full, 0, more}, asked{api.Count, 0, api.Done, 7, more})
}

func TestLeastAndGreatestValue(t *testing.T) {
	tell(t, []int{},
		asked{api.Put, 4294967295, api.Done, 0, []int{4294967295}},
		asked{api.Put, 0, api.Done, 0, []int{0, 4294967295}},
		asked{api.Put, 4294967295, api.Done, 0, []int{0, 4294967295, 4294967295}},
		asked{api.Put, 0, api.Done, 0, []int{0, 0, 4294967295, 4294967295}},
		asked{api.Peek, 9, api.Done, 0, []int{0, 0, 4294967295, 4294967295}},
		asked{api.Take, 9, api.Done, 0, []int{0, 4294967295, 4294967295}},
		asked{api.Take, 9, api.Done, 0, []int{4294967295, 4294967295}},
		asked{api.Peek, 9, api.Done, 4294967295, []int{4294967295, 4294967295}},
		asked{api.Put, 2147483648, api.Done, 0, []int{2147483648, 4294967295, 4294967295}},
		asked{api.Take, 9, api.Done, 2147483648, []int{4294967295, 4294967295}},
	)
}

func TestWrong(t *testing.T) {
	for _, l := range [][]int{nil, {4}, {2, 5, 4, 7, 9}, {2, 5, 4, 7, 9, 8}} {
		for _, what := range []int{api.Front, api.Back, 0, -1, -api.Put, api.Count + 1, 1 << 40, 1<<32 + api.Put, math.MinInt, math.MaxInt} {
			tell(t, l, asked{what, 1, api.Wrong, 0, l})
		}
	}
}

func TestRight(t *testing.T) {
	for _, c := range []struct {
		l    []int
		want bool
	}{
		{nil, true}, {[]int{}, true}, {[]int{0}, true}, {[]int{4294967295}, true},
		{[]int{1, 1}, true}, {[]int{1, 2}, true}, {[]int{2, 1}, false},
		{[]int{1, 2, 1}, true}, {[]int{1, 2, 0}, false}, {[]int{1, 0, 2}, false},
		{[]int{1, 2, 1, 2}, true}, {[]int{1, 2, 1, 1}, false},
		{[]int{1, 2, 1, 3, 2}, true}, {[]int{1, 2, 1, 3, 1}, false},
		{[]int{1, 2, 5, 3, 2, 5}, true}, {[]int{1, 2, 5, 3, 2, 4}, false}, {[]int{1, 5, 2, 5, 5, 2}, true},
		{[]int{0, 0, 0, 0, 0, 0}, true}, {[]int{0, 4294967295, 0, 4294967295, 4294967295, 0}, true},
		{[]int{0, 0, 0, 0, 0, 0, 0}, false}, {[]int{1, 2, 3, 4, 5, 6, 7}, false}, {make([]int, 1000), false},
		{[]int{-1, math.MaxInt, 0}, true}, {[]int{math.MinInt, -1}, true}, {[]int{math.MaxInt, math.MinInt}, false},
	} {
		before := slices.Clone(c.l)
		if got := heap.Right(c.l); got != c.want {
			t.Errorf("Right(%v): %v", c.l, got)
		}
		if !slices.Equal(c.l, before) {
			t.Errorf("Right(%v): the list is %v", before, c.l)
		}
	}
}

// each calls a function with every list of up to n numbers below m.
func each(n, m int, f func(l []int)) {
	var more func(l []int)
	more = func(l []int) {
		f(slices.Clone(l))
		for x := 0; x < m && len(l) < n; x++ {
			more(append(slices.Clone(l), x))
		}
	}
	more(nil)
}

// right is the document's word of it, place by place.
func right(l []int) bool {
	for above, belows := range [][]int{{1, 2}, {3, 4}, {5}} {
		for _, b := range belows {
			if b < len(l) && l[b] < l[above] {
				return false
			}
		}
	}
	return len(l) <= 6
}

func sorted(l []int, more ...int) []int {
	s := slices.Concat(l, more)
	slices.Sort(s)
	return s
}

// TestEachHeap: of every heap of small numbers, what goes in is there beside all the others, what goes out is the least one, and what is left is a heap.
func TestEachHeap(t *testing.T) {
	heaps := 0
	each(7, 4, func(l []int) {
		if heap.Right(l) != right(l) {
			t.Errorf("Right(%v): %v", l, !right(l))
		}
		if !right(l) {
			return
		}
		heaps++
		if len(l) < 6 {
			for x := range 5 {
				got, a := heap.Do(l, api.Op{What: api.Put, Value: x})
				if a != (api.Answer{Code: api.Done}) || !right(got) || !slices.Equal(sorted(got), sorted(l, x)) {
					t.Errorf("%v and %d: %v, %v", l, x, got, a)
				}
			}
		}
		if len(l) > 0 {
			got, a := heap.Do(l, api.Op{What: api.Take})
			if a != (api.Answer{Code: api.Done, Value: slices.Min(l)}) || !right(got) || !slices.Equal(sorted(got, a.Value), sorted(l)) {
				t.Errorf("%v, and one is taken: %v, %v", l, got, a)
			}
		}
	})
	if heaps < 300 {
		t.Errorf("%d heaps: too few to tell", heaps)
	}
}

// TestRising: whatever goes in comes out in order.
func TestRising(t *testing.T) {
	each(6, 4, func(in []int) {
		var l, out []int
		for _, x := range in {
			l, _ = heap.Do(l, api.Op{What: api.Put, Value: x})
		}
		for range in {
			least, p := heap.Do(l, api.Op{What: api.Peek})
			var a api.Answer
			if l, a = heap.Do(least, api.Op{What: api.Take}); a != p {
				t.Errorf("of %v Peek tells %v, and Take %v", least, p, a)
			}
			out = append(out, a.Value)
		}
		if !slices.Equal(out, sorted(in)) || len(l) != 0 {
			t.Errorf("%v went in, %v came out, %v is left", in, out, l)
		}
	})
}
