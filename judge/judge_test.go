package judge_test

import (
	"errors"
	"math"
	"slices"
	"testing"

	"gristmill/api"
	"gristmill/judge"
	"gristmill/object"
	"gristmill/plain"
)

// most is MaxValue, written out.
const most = 4294967295

// Operations of the tests.
var (
	take  = api.Op{What: api.Take}
	count = api.Op{What: api.Count}
)

// Answers of the tests.
var (
	done  = api.Answer{Code: api.Done}
	empty = api.Answer{Code: api.Empty}
)

func put(value int) api.Op { return api.Op{What: api.Put, Value: value} }

func told(value int) api.Answer { return api.Answer{Code: api.Done, Value: value} }

// deed is what was done: thread, operation (What, Key, Value), answer (Code, Value).
func deed(thread, what, key, value, code, answer int) api.Deed {
	return api.Deed{Thread: thread, Op: api.Op{What: what, Key: key, Value: value}, Answer: api.Answer{Code: code, Value: answer}}
}

func called(thread int, o api.Op) api.Event {
	return api.Event{Kind: api.Called, Thread: thread, Op: o}
}

func answered(thread int, o api.Op, a api.Answer, when int) api.Event {
	return api.Event{Kind: api.Answered, Thread: thread, Op: o, Answer: a, When: when}
}

var crashed = api.Event{Kind: api.Crashed}

// roomy is a list with something behind its length, and what lies there.
func roomy[T any](l []T, behind T) (list, whole []T) {
	whole = append(slices.Clone(l), behind, behind)
	return whole[:len(l)], whole
}

// legal asks what deeds come to, twice, and that nothing handed in is written into.
func legal(t *testing.T, kind int, l []api.Deed, want object.Cells, code api.Errno, place int) {
	t.Helper()
	l, whole := roomy(l, deed(0, api.Take, 0, 0, api.Empty, 0))
	kept := slices.Clone(whole)
	for range 2 {
		c, err := judge.Legal(kind, l)
		if e, at := plain.Place(err); c != want || e != code || at != place {
			t.Errorf("Legal(%d, %v): %v, %v at %d: want %v, %v at %d", kind, l, c, e, at, want, code, place)
		}
	}
	if !slices.Equal(whole, kept) {
		t.Errorf("Legal(%d, ..): what was handed in was %v and is %v", kind, kept, whole)
	}
}

// stories are deeds of each kind, and what its words are behind each of them.
var stories = []struct {
	kind  int
	deeds []api.Deed
	words []object.Cells
}{
	{api.Queue, []api.Deed{
		deed(0, api.Take, 0, 0, api.Empty, 0), deed(0, api.Put, 0, 5, api.Done, 0), deed(3, api.Put, 0, 8, api.Done, 0),
		deed(1, api.Count, 0, 0, api.Done, 2), deed(1, api.Take, 0, 0, api.Done, 5), deed(2, api.Front, 0, 1, api.Wrong, 0),
	}, []object.Cells{{}, {1, 5}, {2, 5, 8}, {2, 5, 8}, {1, 8}, {1, 8}}},
	{api.Stack, []api.Deed{
		deed(0, api.Put, 0, 5, api.Done, 0), deed(0, api.Put, 0, 8, api.Done, 0), deed(0, api.Peek, 0, 0, api.Done, 8), deed(0, api.Take, 0, 0, api.Done, 8),
	}, []object.Cells{{1, 5}, {2, 5, 8}, {2, 5, 8}, {1, 5}}},
	{api.Deque, []api.Deed{
		deed(3, api.Put, 0, 5, api.Done, 0), deed(2, api.Front, 0, 8, api.Done, 0), deed(1, api.Back, 0, 0, api.Done, 5), deed(0, api.Take, 0, 0, api.Done, 8),
	}, []object.Cells{{1, 5}, {2, 8, 5}, {1, 8}, {}}},
	{api.Heap, []api.Deed{
		deed(1, api.Put, 0, 5, api.Done, 0), deed(2, api.Put, 0, 3, api.Done, 0), deed(1, api.Put, 0, 4, api.Done, 0), deed(0, api.Take, 0, 0, api.Done, 3),
	}, []object.Cells{{1, 5}, {2, 3, 5}, {3, 3, 5, 4}, {2, 4, 5}}},
	{api.Table, []api.Deed{
		deed(0, api.Put, 3, 7, api.Done, 0), deed(0, api.Put, 11, 9, api.Done, 0), deed(1, api.Peek, 4, 0, api.Absent, 0), deed(1, api.Put, 0, 1, api.Wrong, 0), deed(1, api.Take, 3, 0, api.Done, 7),
	}, []object.Cells{{14: 3, 15: 7}, {0: 11, 1: 9, 14: 3, 15: 7}, {0: 11, 1: 9, 14: 3, 15: 7}, {0: 11, 1: 9, 14: 3, 15: 7}, {14: 11, 15: 9}}},
	{api.Tally, []api.Deed{
		deed(2, api.Put, 0, most, api.Done, 0), deed(2, api.Put, 0, 1, api.Full, 0), deed(2, api.Take, 0, 1, api.Done, most), deed(2, api.Peek, 0, 0, api.Done, most-1),
	}, []object.Cells{{most}, {most}, {most - 1}, {most - 1}}},
}

func TestLegal(t *testing.T) {
	for _, s := range stories {
		legal(t, s.kind, nil, object.Cells{}, api.OK, -1)
		for i, c := range s.words {
			legal(t, s.kind, s.deeds[:i+1], c, api.OK, -1)
		}
	}
}

// TestLegalThread: of an object it is not asked whose deed it was.
func TestLegalThread(t *testing.T) {
	for _, thread := range []int{-1, 4, 1 << 32, math.MinInt, math.MaxInt} {
		legal(t, api.Queue, []api.Deed{deed(thread, api.Put, 0, 5, api.Done, 0)}, object.Cells{1, 5}, api.OK, -1)
	}
}

func TestLegalNoKind(t *testing.T) {
	for _, kind := range []int{0, -1, -6, 7, 8, 1<<8 + 1, 1 << 32, 1<<32 + 1, math.MinInt, math.MaxInt} {
		legal(t, kind, nil, object.Cells{}, api.ErrArg, -1)
		legal(t, kind, []api.Deed{deed(0, api.Put, 0, 5, api.Done, 0)}, object.Cells{}, api.ErrArg, -1)
		legal(t, kind, []api.Deed{{}}, object.Cells{}, api.ErrArg, -1)
	}
}

// spoil are other deeds than one: with another answer, or with an operation that is not Right.
func spoil(d api.Deed) []api.Deed {
	var l []api.Deed
	for _, code := range []int{0, -1, api.Done, api.Empty, api.Full, api.Absent, api.Wrong, 6, 1<<32 + d.Answer.Code} {
		if code != d.Answer.Code {
			l = append(l, api.Deed{Thread: d.Thread, Op: d.Op, Answer: api.Answer{Code: code, Value: d.Answer.Value}})
		}
	}
	for _, more := range []int{1, -1, 1 << 32} {
		l = append(l, api.Deed{Thread: d.Thread, Op: d.Op, Answer: api.Answer{Code: d.Answer.Code, Value: d.Answer.Value + more}})
	}
	for _, o := range []api.Op{{}, {What: 7}, {What: -1}, {What: d.Op.What, Key: 1001}, {What: d.Op.What, Key: -1}, {What: d.Op.What, Value: -1}, {What: d.Op.What, Value: most + 1}} {
		l = append(l, api.Deed{Thread: d.Thread, Op: o, Answer: d.Answer}, api.Deed{Thread: d.Thread, Op: o})
	}
	return l
}

// TestLegalFalse: each deed of each story is made another one; those behind it, right or not, tell nothing.
func TestLegalFalse(t *testing.T) {
	for _, s := range stories {
		for i, d := range s.deeds {
			for _, x := range spoil(d) {
				l := slices.Clone(s.deeds)
				l[i] = x
				legal(t, s.kind, l, object.Cells{}, api.ErrFalse, i)
				legal(t, s.kind, l[:i+1], object.Cells{}, api.ErrFalse, i)
				legal(t, s.kind, append(l, x, x), object.Cells{}, api.ErrFalse, i)
			}
		}
	}
}

// TestLegalLong: many deeds, of which just the last one, or none, is another one.
func TestLegalLong(t *testing.T) {
	var l []api.Deed
	for i := range 5000 {
		l = append(l, deed(i%4, api.Put, 0, 2, api.Done, 2*i))
	}
	legal(t, api.Tally, l, object.Cells{10000}, api.OK, -1)
	l[4999].Answer.Value++
	legal(t, api.Tally, l, object.Cells{}, api.ErrFalse, 4999)
}

// fit asks whether a history fits, twice, and that nothing handed in is written into.
func fit(t *testing.T, h []api.Event, l []api.Deed, code api.Errno, place int) {
	t.Helper()
	h, events := roomy(h, called(0, take))
	l, deeds := roomy(l, deed(0, api.Take, 0, 0, api.Empty, 0))
	keptEvents, keptDeeds := slices.Clone(events), slices.Clone(deeds)
	for range 2 {
		err := judge.Fits(h, l)
		if e, at := plain.Place(err); e != code || at != place {
			t.Errorf("Fits(%v, %v): %v at %d: want %v at %d", h, l, e, at, code, place)
		}
	}
	if !slices.Equal(events, keptEvents) || !slices.Equal(deeds, keptDeeds) {
		t.Errorf("Fits: what was handed in was %v, %v and is %v, %v", keptEvents, keptDeeds, events, deeds)
	}
	if e, at := fitting(h, l); e != code || at != place {
		t.Errorf("fitting(%v, %v): %v at %d: want %v at %d", h, l, e, at, code, place)
	}
}

// Deeds of the tests below, which have nothing to do with what an object would answer.
var (
	put0  = api.Deed{Thread: 0, Op: put(5), Answer: done}
	take0 = api.Deed{Thread: 0, Op: take, Answer: told(5)}
	take1 = api.Deed{Thread: 1, Op: take, Answer: told(5)}
	none1 = api.Deed{Thread: 1, Op: take, Answer: empty}
)

func TestFits(t *testing.T) {
	fit(t, nil, nil, api.OK, -1)

	// One thread.
	fit(t, []api.Event{called(0, put(5)), answered(0, put(5), done, 1)}, []api.Deed{put0}, api.OK, -1)
	fit(t, []api.Event{called(0, put(5)), answered(0, put(5), done, 1), called(0, take), answered(0, take, told(5), 2)}, []api.Deed{put0, take0}, api.OK, -1)
	fit(t, []api.Event{called(0, take), answered(0, take, told(5), 1), called(0, take), answered(0, take, told(5), 2)}, []api.Deed{take0, take0}, api.OK, -1)

	// Several, at once, in either order.
	for when := 1; when <= 2; when++ {
		h := []api.Event{called(0, put(5)), called(1, take), answered(1, take, told(5), when), answered(0, put(5), done, 3-when)}
		fit(t, h, [][]api.Deed{1: {take1, put0}, 2: {put0, take1}}[when], api.OK, -1)
		h[2], h[3] = h[3], h[2]
		fit(t, h, [][]api.Deed{1: {take1, put0}, 2: {put0, take1}}[when], api.OK, -1)
	}

	// Calls that stay open, done or not; at any place among the deeds, if nothing was answered ahead of them.
	fit(t, []api.Event{called(0, put(5))}, nil, api.OK, -1)
	fit(t, []api.Event{called(0, put(5))}, []api.Deed{put0}, api.OK, -1)
	fit(t, []api.Event{called(0, put(5)), called(1, take)}, []api.Deed{put0}, api.OK, -1)
	fit(t, []api.Event{called(0, put(5)), called(1, take)}, []api.Deed{take1}, api.OK, -1)
	fit(t, []api.Event{called(0, put(5)), called(1, take)}, []api.Deed{take1, put0}, api.OK, -1)
	fit(t, []api.Event{called(0, put(5)), called(1, take), answered(1, take, told(5), 2)}, []api.Deed{put0, take1}, api.OK, -1)
	fit(t, []api.Event{called(0, put(5)), called(1, take), answered(1, take, told(5), 1)}, []api.Deed{take1, put0}, api.OK, -1)
	fit(t, []api.Event{called(0, put(5)), answered(0, put(5), done, 1), called(0, put(5))}, []api.Deed{put0}, api.OK, -1)
	fit(t, []api.Event{called(0, put(5)), answered(0, put(5), done, 1), called(0, put(5))}, []api.Deed{put0, put0}, api.OK, -1)

	// Of an open call it is not asked what came of it.
	fit(t, []api.Event{called(1, take)}, []api.Deed{{Thread: 1, Op: take, Answer: api.Answer{Code: 9, Value: -9}}}, api.OK, -1)

	// Crashes, which leave calls open; what else is told of a crash is asked nothing of.
	fit(t, []api.Event{crashed}, nil, api.OK, -1)
	fit(t, []api.Event{crashed, called(0, put(5)), crashed, crashed, answered(0, put(5), done, 1), crashed}, []api.Deed{put0}, api.OK, -1)
	fit(t, []api.Event{called(0, put(5)), {Kind: api.Crashed, Thread: 0, Op: take, Answer: told(7), When: 7}, answered(0, put(5), done, 1)}, []api.Deed{put0}, api.OK, -1)
	fit(t, []api.Event{called(0, put(5)), called(1, take), crashed, answered(1, take, empty, 1), crashed}, []api.Deed{none1, put0}, api.OK, -1)

	// What an event's kind has nothing of, and steps, are asked nothing of; nor whether there is such a thread.
	fit(t, []api.Event{{Kind: api.Called, Thread: 0, Op: put(5), Answer: told(7), When: 7, Step: 9}, {Kind: api.Answered, Thread: 0, Op: put(5), Answer: done, When: 1, Step: 2}}, []api.Deed{put0}, api.OK, -1)
	for _, thread := range []int{-1, 4, 64, 1 << 32, math.MinInt, math.MaxInt} {
		h := []api.Event{called(0, put(5)), called(thread, put(5)), answered(thread, put(5), done, 1)}
		fit(t, h, []api.Deed{{Thread: thread, Op: put(5), Answer: done}, put0}, api.OK, -1)
	}
}

func TestOrder(t *testing.T) {
	whole := []api.Event{called(0, put(5)), answered(0, put(5), done, 1), called(0, take), answered(0, take, told(5), 2)}
	deeds := []api.Deed{put0, take0}
	fit(t, whole, deeds, api.OK, -1)

	// A Kind that is none of the three.
	for _, kind := range []int{0, -1, 4, 1<<8 + 1, 1<<32 + api.Called, 1<<32 + api.Crashed, math.MinInt, math.MaxInt} {
		for at := range 5 {
			h := slices.Insert(slices.Clone(whole), at, api.Event{Kind: kind, Thread: 1, Op: take})
			fit(t, h, deeds, api.ErrOrder, at)
		}
	}

	// A call while one of that thread is open: the same one, or another, with a crash between or without.
	fit(t, []api.Event{called(0, put(5)), called(0, put(5)), answered(0, put(5), done, 1)}, []api.Deed{put0}, api.ErrOrder, 1)
	fit(t, []api.Event{called(0, put(5)), called(1, take), called(0, take)}, nil, api.ErrOrder, 2)
	fit(t, []api.Event{called(0, put(5)), crashed, called(0, put(5))}, nil, api.ErrOrder, 2)
	fit(t, append(slices.Clone(whole), called(0, take), called(0, take)), deeds, api.ErrOrder, 5)

	// An answer where no call is open.
	fit(t, []api.Event{answered(0, put(5), done, 1)}, []api.Deed{put0}, api.ErrOrder, 0)
	fit(t, []api.Event{answered(0, put(5), done, 1), called(0, put(5))}, []api.Deed{put0}, api.ErrOrder, 0)
	fit(t, []api.Event{called(0, put(5)), answered(1, put(5), done, 1)}, []api.Deed{put0}, api.ErrOrder, 1)
	fit(t, append(slices.Clone(whole), whole[3]), deeds, api.ErrOrder, 4)
	fit(t, append(slices.Clone(whole), crashed, whole[3]), deeds, api.ErrOrder, 5)

	// An answer of another Op, in each part of it; the one of an answered call is the other one too.
	for _, o := range []api.Op{put(6), take, {}, {What: api.Put, Key: 1, Value: 5}, {What: api.Peek, Value: 5}} {
		fit(t, []api.Event{called(0, put(5)), answered(0, o, done, 1)}, []api.Deed{put0}, api.ErrOrder, 1)
		fit(t, append(slices.Clone(whole), called(0, put(5)), answered(0, o, done, 3)), append(slices.Clone(deeds), put0), api.ErrOrder, 5)
	}
}

func TestMissing(t *testing.T) {
	for _, when := range []int{0, -1, 2, 3, 1<<8 + 1, 1<<32 + 1, math.MinInt, math.MinInt + 1, math.MaxInt} {
		fit(t, []api.Event{called(0, put(5)), answered(0, put(5), done, when)}, []api.Deed{put0}, api.ErrMissing, -1)
		fit(t, []api.Event{called(1, take), called(0, put(5)), answered(0, put(5), done, when)}, []api.Deed{take1}, api.ErrMissing, -1)
	}
	for _, when := range []int{0, 1} {
		fit(t, []api.Event{called(0, put(5)), answered(0, put(5), done, when)}, nil, api.ErrMissing, -1)
	}
}

func TestFalse(t *testing.T) {
	h := []api.Event{called(0, put(5)), answered(0, put(5), done, 1)}
	for _, d := range []api.Deed{
		{Thread: 1, Op: put(5), Answer: done}, {Thread: -1, Op: put(5), Answer: done}, {Thread: 1 << 32, Op: put(5), Answer: done},
		{Op: put(6), Answer: done}, {Op: take, Answer: done}, {Op: api.Op{What: api.Put, Key: 1, Value: 5}, Answer: done}, {Answer: done},
		{Op: put(5), Answer: told(1)}, {Op: put(5), Answer: empty}, {Op: put(5), Answer: api.Answer{Code: api.Full}}, {Op: put(5)}, {},
	} {
		fit(t, h, []api.Deed{d}, api.ErrFalse, -1)
	}
	fit(t, h, []api.Deed{take1, put0}, api.ErrFalse, -1)
	fit(t, []api.Event{called(0, put(5)), answered(0, put(5), done, 2)}, []api.Deed{put0, take1}, api.ErrFalse, -1)
}

func TestTwice(t *testing.T) {
	fit(t, []api.Event{called(0, put(5)), answered(0, put(5), done, 1), called(0, put(5)), answered(0, put(5), done, 1)}, []api.Deed{put0}, api.ErrTwice, -1)
	h := []api.Event{
		called(0, put(5)), answered(0, put(5), done, 1), called(1, take), answered(1, take, told(5), 2), crashed,
		called(0, put(5)), answered(0, put(5), done, 3), called(0, put(5)), answered(0, put(5), done, 1),
	}
	fit(t, h, []api.Deed{put0, take1, put0}, api.ErrTwice, -1)
	h[8].When = 3
	fit(t, h, []api.Deed{put0, take1, put0}, api.ErrTwice, -1)
	h[8].When = 4
	fit(t, h, []api.Deed{put0, take1, put0, put0}, api.OK, -1)
}

func TestNone(t *testing.T) {
	// A deed that nobody asked for: there is no call, none of the thread, none of the operation, or none that is open.
	fit(t, nil, []api.Deed{put0}, api.ErrNone, -1)
	fit(t, []api.Event{crashed}, []api.Deed{put0}, api.ErrNone, -1)
	for _, d := range []api.Deed{take1, take0, {Thread: 1, Op: put(5), Answer: done}, {Op: put(6), Answer: done}, {Op: api.Op{What: api.Put, Key: 1, Value: 5}, Answer: done}, {}} {
		fit(t, []api.Event{called(0, put(5))}, []api.Deed{d}, api.ErrNone, -1)
		fit(t, []api.Event{called(0, put(5))}, []api.Deed{put0, d}, api.ErrNone, -1)
		fit(t, []api.Event{called(0, put(5)), answered(0, put(5), done, 2)}, []api.Deed{d, put0}, api.ErrNone, -1)
	}
	answeredPut := []api.Event{called(0, put(5)), answered(0, put(5), done, 1)}
	fit(t, answeredPut, []api.Deed{put0, put0}, api.ErrNone, -1)
	fit(t, append(slices.Clone(answeredPut), called(0, take)), []api.Deed{put0, put0}, api.ErrNone, -1)
	fit(t, append(slices.Clone(answeredPut), called(0, take)), []api.Deed{put0, take0, put0}, api.ErrNone, -1)

	// A second one where just one call is open.
	fit(t, []api.Event{called(0, put(5))}, []api.Deed{put0, put0}, api.ErrNone, -1)
	fit(t, []api.Event{called(0, put(5)), called(1, take)}, []api.Deed{take1, put0, none1}, api.ErrNone, -1)
	fit(t, append(slices.Clone(answeredPut), called(0, put(5))), []api.Deed{put0, put0, put0}, api.ErrNone, -1)
}

func TestState(t *testing.T) {
	put1 := api.Deed{Thread: 1, Op: put(5), Answer: done}
	apart := []api.Event{called(0, put(5)), answered(0, put(5), done, 2), called(1, put(5)), answered(1, put(5), done, 1)}
	fit(t, apart, []api.Deed{put1, put0}, api.ErrState, -1)

	// The same ones at once may be done in that order.
	fit(t, []api.Event{apart[0], apart[2], apart[1], apart[3]}, []api.Deed{put1, put0}, api.OK, -1)
	fit(t, []api.Event{apart[2], apart[0], apart[3], apart[1]}, []api.Deed{put1, put0}, api.OK, -1)

	// A call that is open is asked likewise; a crash between them changes nothing.
	fit(t, apart[:3], []api.Deed{put1, put0}, api.ErrState, -1)
	fit(t, []api.Event{apart[0], apart[1], crashed, apart[2]}, []api.Deed{put1, put0}, api.ErrState, -1)

	// One thread's own deeds; deeds that aren't one beside the other.
	fit(t, []api.Event{called(0, put(5)), answered(0, put(5), done, 2), called(0, take), answered(0, take, told(5), 1)}, []api.Deed{take0, put0}, api.ErrState, -1)
	far := []api.Event{
		called(2, count), called(0, put(5)), answered(0, put(5), done, 3), called(1, put(5)), answered(1, put(5), done, 1), answered(2, count, told(1), 2),
	}
	fit(t, far, []api.Deed{put1, {Thread: 2, Op: count, Answer: told(1)}, put0}, api.ErrState, -1)
	far[2].When, far[4].When = 1, 3
	fit(t, far, []api.Deed{put0, {Thread: 2, Op: count, Answer: told(1)}, put1}, api.OK, -1)
}

// TestFirstTold: where several errors are there, the one that the document tells first is answered.
func TestFirstTold(t *testing.T) {
	// The first event of those that aren't in order, and that ahead of all else.
	fit(t, []api.Event{called(0, put(5)), {Kind: 9}, called(0, take), answered(1, take, empty, 1)}, nil, api.ErrOrder, 1)
	fit(t, []api.Event{called(0, put(5)), answered(0, put(5), done, 9), called(1, take), called(1, take)}, []api.Deed{take0}, api.ErrOrder, 3)

	// In the order of calls, not of answers: each call's errors wholly ahead of the next one's.
	h := []api.Event{called(0, put(5)), called(1, take), answered(1, take, told(5), 9), answered(0, put(5), done, 1)}
	fit(t, h, []api.Deed{take0}, api.ErrFalse, -1)
	fit(t, []api.Event{h[1], h[0], h[3], h[2]}, []api.Deed{take0}, api.ErrMissing, -1)
	twice := []api.Event{called(0, put(5)), answered(0, put(5), done, 1), called(0, put(5)), answered(0, put(5), done, 1), called(1, take), answered(1, take, told(5), 9)}
	fit(t, twice, []api.Deed{put0}, api.ErrTwice, -1)
	fit(t, []api.Event{twice[4], twice[5], twice[0], twice[1], twice[2], twice[3]}, []api.Deed{put0}, api.ErrMissing, -1)
	twice[5].When = 1
	fit(t, twice, []api.Deed{put0}, api.ErrTwice, -1)
	fit(t, []api.Event{twice[0], twice[1], twice[4], twice[2], twice[3], twice[5]}, []api.Deed{put0}, api.ErrFalse, -1)

	// Of one call: another deed, which a call ahead has.
	fit(t, []api.Event{called(0, put(5)), answered(0, put(5), done, 1), called(1, take), answered(1, take, told(5), 1)}, []api.Deed{put0}, api.ErrFalse, -1)

	// What calls have, ahead of deeds that no call has: those come first in the list, and last.
	fit(t, []api.Event{called(0, put(5)), answered(0, put(5), done, 9)}, []api.Deed{take1}, api.ErrMissing, -1)
	fit(t, []api.Event{called(0, put(5)), answered(0, put(5), done, 2)}, []api.Deed{take1, take0}, api.ErrFalse, -1)
	fit(t, twice[:4], []api.Deed{put0, take1}, api.ErrTwice, -1)

	// Deeds that no call has, ahead of their order.
	behind := []api.Event{called(0, put(5)), answered(0, put(5), done, 2), called(1, take)}
	fit(t, behind, []api.Deed{take1, put0}, api.ErrState, -1)
	fit(t, behind, []api.Deed{take1, put0, take1}, api.ErrNone, -1)
	fit(t, behind, []api.Deed{take1, put0, take0}, api.ErrNone, -1)
}

// TestFreshErrors: an error that comes out is the caller's, and what is made of it is not seen again.
func TestFreshErrors(t *testing.T) {
	for range 2 {
		_, err := judge.Legal(api.Queue, []api.Deed{take0})
		for _, err := range []error{err, judge.Fits([]api.Event{{}}, nil)} {
			var at *api.At
			if !errors.As(err, &at) || at.Place != 0 {
				t.Fatalf("%v: want an At of place 0", err)
			}
			at.Place, at.Err = 7, api.ErrFull
		}
	}
}

// fitting is what the document says of a history and deeds, sentence by sentence: an Errno and a place, -1 of none.
func fitting(h []api.Event, l []api.Deed) (api.Errno, int) {
	calls, at := reading(h)
	if at >= 0 {
		return api.ErrOrder, at
	}
	has := map[int]int{} // by call: the number of its deed
	had := map[int]int{} // by the number of a deed: its call
	for n, c := range calls {
		if c.end < 0 {
			continue
		}
		e := h[c.end]
		if e.When < 1 || e.When > len(l) {
			return api.ErrMissing, -1
		}
		d := l[e.When-1]
		if d.Thread != e.Thread || d.Op != e.Op || d.Answer != e.Answer {
			return api.ErrFalse, -1
		}
		if _, is := had[e.When]; is {
			return api.ErrTwice, -1
		}
		has[n], had[e.When] = e.When, n
	}
	for i, d := range l {
		if _, is := had[i+1]; is {
			continue
		}
		first := slices.IndexFunc(calls, func(c span) bool { return c.end < 0 && h[c.at].Thread == d.Thread && h[c.at].Op == d.Op })
		if first < 0 || has[first] != 0 {
			return api.ErrNone, -1
		}
		has[first], had[i+1] = i+1, first
	}
	for later := range l {
		for lower := range later {
			a, b := calls[had[later+1]], calls[had[lower+1]]
			if a.end >= 0 && a.end < b.at {
				return api.ErrState, -1
			}
		}
	}
	return api.OK, -1
}

// span is a call: where it stands, and where its answer does, -1 if it is open.
type span struct{ at, end int }

// reading are a history's calls, and the place of the first event that is not in order, -1 if all are.
func reading(h []api.Event) ([]span, int) {
	var calls []span
	for i, e := range h {
		open := slices.IndexFunc(calls, func(c span) bool { return c.end < 0 && h[c.at].Thread == e.Thread })
		switch e.Kind {
		case 1:
			if open >= 0 {
				return nil, i
			}
			calls = append(calls, span{i, -1})
		case 2:
			if open < 0 || h[calls[open].at].Op != e.Op {
				return nil, i
			}
			calls[open].end = i
		case 3:
		default:
			return nil, i
		}
	}
	return calls, -1
}

// die: numbers that look drawn, the same each time.
type die uint64

func (d *die) n(most int) int {
	*d = *d*6364136223846793005 + 1442695040888963407
	return int(uint64(*d>>33) % uint64(most))
}

// drawn is a history that fits, and its deeds: threads call; what one asked for is done at some time behind that, and answered at some time behind that.
func drawn(d *die, steps int) ([]api.Event, []api.Deed) {
	var h []api.Event
	var l []api.Deed
	var state [4]int // 0: idle, 1: called, 2: done
	var ops [4]api.Op
	var when [4]int
	ask := []api.Op{put(5), take}
	for range steps {
		if d.n(8) == 0 {
			h = append(h, crashed)
			continue
		}
		t := d.n(4)
		switch state[t] {
		case 0:
			ops[t] = ask[d.n(2)]
			h = append(h, called(t, ops[t]))
		case 1:
			l = append(l, api.Deed{Thread: t, Op: ops[t], Answer: told(d.n(2))})
			when[t] = len(l)
		case 2:
			h = append(h, answered(t, ops[t], l[when[t]-1].Answer, when[t]))
		}
		state[t] = (state[t] + 1) % 3
	}
	return h, l
}

// change makes something of a history, or of its deeds, another thing.
func change(d *die, h []api.Event, l []api.Deed) ([]api.Event, []api.Deed) {
	i, j, m, n := d.n(len(h)), d.n(len(h)), d.n(len(l)), d.n(len(l))
	switch d.n(10) {
	case 0:
		h[i], h[j] = h[j], h[i]
	case 1:
		h = slices.Delete(h, i, i+1)
	case 2:
		h[i].When = d.n(len(l)+3) - 1
	case 3:
		h[i].Kind = d.n(5)
	case 4:
		h[i].Thread = d.n(4)
	case 5:
		l[m], l[n] = l[n], l[m]
		for k := range h {
			switch h[k].When {
			case m + 1:
				h[k].When = n + 1
			case n + 1:
				h[k].When = m + 1
			}
		}
	case 6:
		l = slices.Insert(l, len(l), l[m])
	case 7:
		l = l[:len(l)-1]
	case 8:
		l[m].Answer = told(d.n(2))
	case 9: // all answers that are like one tell one deed
		for k := range h {
			if h[k].Thread == h[i].Thread && h[k].Op == h[i].Op && h[k].Answer == h[i].Answer {
				h[k].When = h[i].When
			}
		}
	}
	return h, l
}

// TestDrawn holds histories that fit, and such of which something is made another thing, against the document's sentences.
func TestDrawn(t *testing.T) {
	d := die(5)
	seen := map[api.Errno]int{}
	for range 4000 {
		h, l := drawn(&d, 4+d.n(30))
		if e, at := plain.Place(judge.Fits(h, l)); e != api.OK || at != -1 {
			t.Fatalf("Fits(%v, %v): %v at %d: it fits", h, l, e, at)
		}
		for range 4 {
			if len(h) == 0 || len(l) == 0 {
				break
			}
			h, l = change(&d, h, l)
			e, at := fitting(h, l)
			seen[e]++
			fit(t, h, l, e, at)
		}
	}
	for _, e := range []api.Errno{api.OK, api.ErrOrder, api.ErrMissing, api.ErrFalse, api.ErrTwice, api.ErrNone, api.ErrState} {
		if seen[e] < 40 {
			t.Errorf("%v was there %d times: too seldom to tell", e, seen[e])
		}
	}
}

// TestLongHistory: a history of many events takes no time to speak of.
func TestLongHistory(t *testing.T) {
	var h []api.Event
	var l []api.Deed
	for i := range 200_000 {
		thread := i % 5000
		if i >= 5000 {
			h = append(h, answered(thread, take, told(i-5000), i-5000+1))
		}
		h = append(h, called(thread, take))
		l = append(l, api.Deed{Thread: thread, Op: take, Answer: told(i)})
	}
	if err := judge.Fits(h, l); err != nil {
		t.Errorf("Fits of a long history: %v", err)
	}
	h[len(h)-2].When = 1
	if e, _ := plain.Place(judge.Fits(h, l)); e != api.ErrFalse {
		t.Errorf("Fits of a long history that doesn't fit: %v", e)
	}
}
