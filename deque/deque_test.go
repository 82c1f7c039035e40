// What deques promise as other lists do is asked in folder lists; here stands what is a deque's own, written out.
package deque_test

import (
	"math"
	"slices"
	"testing"

	"gristmill/api"
	"gristmill/deque"
)

// asked is an operation (What, Value), the answer to it (Code, Value), and what a deque is then.
type asked struct {
	what, value int
	code, told  int
	want        []int
}

// tell does one operation behind the other, from a deque on.
func tell(t *testing.T, l []int, story ...asked) {
	t.Helper()
	for i, c := range story {
		o, want := api.Op{What: c.what, Value: c.value}, api.Answer{Code: c.code, Value: c.told}
		got, a := deque.Do(l, o)
		if !slices.Equal(got, c.want) || a != want {
			t.Errorf("number %d: Do(%v, %v): %v, %v: want %v, %v", i, l, o, got, a, c.want, want)
		}
		l = got
	}
}

func TestInAndOutAtBothEnds(t *testing.T) {
	tell(t, nil,
		asked{api.Count, 0, api.Done, 0, nil},
		asked{api.Put, 5, api.Done, 0, []int{5}},
		asked{api.Front, 8, api.Done, 0, []int{8, 5}},
		asked{api.Put, 3, api.Done, 0, []int{8, 5, 3}},
		asked{api.Front, 6, api.Done, 0, []int{6, 8, 5, 3}},
		asked{api.Peek, 0, api.Done, 6, []int{6, 8, 5, 3}},
		asked{api.Peek, 0, api.Done, 6, []int{6, 8, 5, 3}},
		asked{api.Count, 0, api.Done, 4, []int{6, 8, 5, 3}},
		asked{api.Back, 0, api.Done, 3, []int{6, 8, 5}},
		asked{api.Take, 0, api.Done, 6, []int{8, 5}},
		asked{api.Front, 7, api.Done, 0, []int{7, 8, 5}},
		asked{api.Back, 0, api.Done, 5, []int{7, 8}},
		asked{api.Put, 9, api.Done, 0, []int{7, 8, 9}},
		asked{api.Take, 0, api.Done, 7, []int{8, 9}},
		asked{api.Back, 0, api.Done, 9, []int{8}},
		asked{api.Peek, 0, api.Done, 8, []int{8}},
		asked{api.Count, 0, api.Done, 1, []int{8}},
		asked{api.Back, 0, api.Done, 8, nil},
		asked{api.Count, 0, api.Done, 0, nil},
	)
}

func TestEmpty(t *testing.T) {
	for _, l := range [][]int{nil, {}} {
		tell(t, l,
			asked{api.Take, 4, api.Empty, 0, nil},
			asked{api.Back, 4, api.Empty, 0, nil},
			asked{api.Peek, 4, api.Empty, 0, nil},
			asked{api.Count, 4, api.Done, 0, nil},
		)
	}
}

// TestTheOneThatIsLeft: what went in at either end goes out at either end, and none is left then.
func TestTheOneThatIsLeft(t *testing.T) {
	for _, in := range []int{api.Put, api.Front} {
		for _, out := range []int{api.Take, api.Back} {
			tell(t, nil,
				asked{in, 5, api.Done, 0, []int{5}},
				asked{api.Peek, 0, api.Done, 5, []int{5}},
				asked{out, 0, api.Done, 5, nil},
				asked{out, 0, api.Empty, 0, nil},
				asked{in, 6, api.Done, 0, []int{6}},
			)
		}
	}
}

// TestRoom: a deque is full from Room on, also one that has more, at both ends; what is taken at either end makes room at either.
func TestRoom(t *testing.T) {
	tell(t, []int{1, 2, 3, 4, 5, 6, 7, 8},
		asked{api.Put, 9, api.Full, 0, []int{1, 2, 3, 4, 5, 6, 7, 8}},
		asked{api.Front, 9, api.Full, 0, []int{1, 2, 3, 4, 5, 6, 7, 8}},
		asked{api.Count, 0, api.Done, 8, []int{1, 2, 3, 4, 5, 6, 7, 8}},
		asked{api.Peek, 0, api.Done, 1, []int{1, 2, 3, 4, 5, 6, 7, 8}},
		asked{api.Take, 0, api.Done, 1, []int{2, 3, 4, 5, 6, 7, 8}},
		asked{api.Back, 0, api.Done, 8, []int{2, 3, 4, 5, 6, 7}},
		asked{api.Put, 9, api.Full, 0, []int{2, 3, 4, 5, 6, 7}},
		asked{api.Front, 9, api.Full, 0, []int{2, 3, 4, 5, 6, 7}},
		asked{api.Back, 0, api.Done, 7, []int{2, 3, 4, 5, 6}},
		asked{api.Front, 9, api.Done, 0, []int{9, 2, 3, 4, 5, 6}},
		asked{api.Front, 1, api.Full, 0, []int{9, 2, 3, 4, 5, 6}},
		asked{api.Put, 1, api.Full, 0, []int{9, 2, 3, 4, 5, 6}},
		asked{api.Take, 0, api.Done, 9, []int{2, 3, 4, 5, 6}},
		asked{api.Put, 1, api.Done, 0, []int{2, 3, 4, 5, 6, 1}},
		asked{api.Front, 8, api.Full, 0, []int{2, 3, 4, 5, 6, 1}},
		asked{api.Count, 0, api.Done, 6, []int{2, 3, 4, 5, 6, 1}},
	)
}

func TestLeastAndGreatestValue(t *testing.T) {
	tell(t, []int{},
		asked{api.Front, 0, api.Done, 0, []int{0}},
		asked{api.Front, 4294967295, api.Done, 0, []int{4294967295, 0}},
		asked{api.Put, 4294967295, api.Done, 0, []int{4294967295, 0, 4294967295}},
		asked{api.Put, 0, api.Done, 0, []int{4294967295, 0, 4294967295, 0}},
		asked{api.Peek, 9, api.Done, 4294967295, []int{4294967295, 0, 4294967295, 0}},
		asked{api.Back, 9, api.Done, 0, []int{4294967295, 0, 4294967295}},
		asked{api.Back, 9, api.Done, 4294967295, []int{4294967295, 0}},
		asked{api.Take, 9, api.Done, 4294967295, []int{0}},
		asked{api.Peek, 9, api.Done, 0, []int{0}},
		asked{api.Back, 9, api.Done, 0, nil},
		asked{api.Back, 9, api.Empty, 0, nil},
	)
}

func TestWrong(t *testing.T) {
	for _, l := range [][]int{nil, {4}, {4, 9, 2, 7, 5, 8}, {4, 9, 2, 7, 5, 8, 3}} {
		for _, what := range []int{0, -1, -api.Front, -api.Back, api.Count + 1, 1 << 40, 1<<32 + api.Front, math.MinInt, math.MaxInt} {
			tell(t, l, asked{what, 6, api.Wrong, 0, l})
		}
	}
}

// TestSeenFromBehind: Front is Put, and Back is Take, of a deque that is turned round.
func TestSeenFromBehind(t *testing.T) {
	for n := range 10 {
		l := make([]int, n)
		for i := range l {
			l[i] = 10 + i
		}
		round := slices.Clone(l)
		slices.Reverse(round)
		for ahead, behind := range map[int]int{api.Front: api.Put, api.Back: api.Take} {
			one, a := deque.Do(l, api.Op{What: ahead, Key: 3, Value: 5})
			two, b := deque.Do(round, api.Op{What: behind, Key: 3, Value: 5})
			if slices.Reverse(two); !slices.Equal(one, two) || a != b {
				t.Errorf("of %v, What %d: %v, %v: turned round %v, %v", l, ahead, one, a, two, b)
			}
		}
	}
}

// TestManyWaysFromOne: what is done with one deque, at either end, is not seen in another that came of the same one.
func TestManyWaysFromOne(t *testing.T) {
	from, _ := deque.Do([]int{2, 3}, api.Op{What: api.Front, Value: 1})
	ahead, _ := deque.Do(from, api.Op{What: api.Front, Value: 4})
	behind, _ := deque.Do(from, api.Op{What: api.Put, Value: 5})
	first, _ := deque.Do(from, api.Op{What: api.Take})
	last, _ := deque.Do(from, api.Op{What: api.Back})
	more, _ := deque.Do(last, api.Op{What: api.Put, Value: 6})
	other, _ := deque.Do(first, api.Op{What: api.Front, Value: 7})
	for _, c := range []struct{ got, want []int }{
		{from, []int{1, 2, 3}}, {ahead, []int{4, 1, 2, 3}}, {behind, []int{1, 2, 3, 5}},
		{first, []int{2, 3}}, {last, []int{1, 2}}, {more, []int{1, 2, 6}}, {other, []int{7, 2, 3}},
	} {
		if !slices.Equal(c.got, c.want) {
			t.Errorf("%v, want %v", c.got, c.want)
		}
	}
}
