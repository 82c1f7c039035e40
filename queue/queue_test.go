// What queues promise as other lists do is asked in folder lists; here stands what is a queue's own, written out.
package queue_test

import (
	"slices"
	"testing"

	"gristmill/api"
	"gristmill/queue"
)

// asked is an operation (What, Value), the answer to it (Code, Value), and what a queue is then.
type asked struct {
	what, value int
	code, told  int
	want        []int
}

// tell does one operation behind the other, from a queue on.
func tell(t *testing.T, l []int, story ...asked) {
	t.Helper()
	for i, c := range story {
		o, want := api.Op{What: c.what, Value: c.value}, api.Answer{Code: c.code, Value: c.told}
		got, a := queue.Do(l, o)
		if !slices.Equal(got, c.want) || a != want {
			t.Errorf("number %d: Do(%v, %v): %v, %v: want %v, %v", i, l, o, got, a, c.want, want)
		}
		l = got
	}
}

func TestFirstInFirstOut(t *testing.T) {
	tell(t, nil,
		asked{api.Count, 0, api.Done, 0, nil},
		asked{api.Put, 5, api.Done, 0, []int{5}},
		asked{api.Put, 8, api.Done, 0, []int{5, 8}},
		asked{api.Put, 3, api.Done, 0, []int{5, 8, 3}},
		asked{api.Peek, 0, api.Done, 5, []int{5, 8, 3}},
		asked{api.Peek, 0, api.Done, 5, []int{5, 8, 3}},
		asked{api.Count, 0, api.Done, 3, []int{5, 8, 3}},
		asked{api.Take, 0, api.Done, 5, []int{8, 3}},
		asked{api.Put, 5, api.Done, 0, []int{8, 3, 5}},
		asked{api.Take, 0, api.Done, 8, []int{3, 5}},
		asked{api.Take, 0, api.Done, 3, []int{5}},
		asked{api.Peek, 0, api.Done, 5, []int{5}},
		asked{api.Count, 0, api.Done, 1, []int{5}},
		asked{api.Take, 0, api.Done, 5, nil},
		asked{api.Take, 0, api.Empty, 0, nil},
		asked{api.Peek, 0, api.Empty, 0, nil},
		asked{api.Count, 0, api.Done, 0, nil},
	)
}

// TestRoom: a queue is full from Room on, also one that has more; what is taken makes room for one.
func TestRoom(t *testing.T) {
	tell(t, []int{1, 2, 3, 4, 5, 6, 7},
		asked{api.Put, 8, api.Full, 0, []int{1, 2, 3, 4, 5, 6, 7}},
		asked{api.Count, 0, api.Done, 7, []int{1, 2, 3, 4, 5, 6, 7}},
		asked{api.Peek, 0, api.Done, 1, []int{1, 2, 3, 4, 5, 6, 7}},
		asked{api.Take, 0, api.Done, 1, []int{2, 3, 4, 5, 6, 7}},
		asked{api.Put, 8, api.Full, 0, []int{2, 3, 4, 5, 6, 7}},
		asked{api.Take, 0, api.Done, 2, []int{3, 4, 5, 6, 7}},
		asked{api.Put, 8, api.Done, 0, []int{3, 4, 5, 6, 7, 8}},
		asked{api.Put, 9, api.Full, 0, []int{3, 4, 5, 6, 7, 8}},
		asked{api.Count, 0, api.Done, 6, []int{3, 4, 5, 6, 7, 8}},
	)
}

func TestLeastAndGreatestValue(t *testing.T) {
	tell(t, []int{},
		asked{api.Put, 0, api.Done, 0, []int{0}},
		asked{api.Put, 4294967295, api.Done, 0, []int{0, 4294967295}},
		asked{api.Peek, 9, api.Done, 0, []int{0, 4294967295}},
		asked{api.Take, 9, api.Done, 0, []int{4294967295}},
		asked{api.Peek, 9, api.Done, 4294967295, []int{4294967295}},
		asked{api.Take, 9, api.Done, 4294967295, nil},
		asked{api.Take, 9, api.Empty, 0, nil},
	)
}

func TestWrong(t *testing.T) {
	for _, l := range [][]int{nil, {4}, {4, 9, 2, 7, 5, 8}, {4, 9, 2, 7, 5, 8, 3}} {
		for _, what := range []int{api.Front, api.Back, 0, -1, api.Count + 1, 1 << 40} {
			tell(t, l, asked{what, 6, api.Wrong, 0, l})
		}
	}
}
