package batch_test

import (
	"math"
	"slices"
	"testing"

	"gristmill/api"
	"gristmill/batch"
	"gristmill/object"
	"gristmill/plain"
	"gristmill/record"
)

type words = record.Record

// Words of answers, written out: Code times 2^32, and Value.
const (
	most   = 4294967295
	done   = 1 << 32
	empty  = 2 << 32
	full   = 3 << 32
	absent = 4 << 32
	wrong  = 5 << 32
)

// top is what a version and a count are at most, 2^40.
const top = 1099511627776

// Numbers that are no thread, and no toggle; some would pass if they were cut to 32, or to 8, bits, or to the last one.
var (
	noThreads = []int{-1, -2, -4, 4, 5, 8, 26, 60, 63, 64, 1 << 8, 1 << 32, 1<<32 + 1, math.MinInt, math.MinInt + 1, math.MaxInt}
	noToggles = []int{-1, -2, 2, 3, 4, 1 << 8, 1<<8 + 1, 1 << 32, 1<<32 + 1, math.MinInt, math.MinInt + 1, math.MaxInt}
)

// Operations that aren't Right.
var wrongOps = []api.Op{
	{}, {What: -1}, {What: 7}, {What: 1<<32 + 1}, {What: api.Put, Key: -1}, {What: api.Take, Key: 1001},
	{What: api.Put, Value: -1}, {What: api.Put, Value: most + 1}, {What: math.MaxInt}, {What: api.Count, Value: math.MinInt},
}

// Records that aren't Right.
var spoilt = []words{
	{}, {0: 7}, {0: 1<<32 + 1}, {0: 1, 1: 7}, {0: 1, 1: 1, 3: 1}, {0: 5, 1: 3, 2: 7}, {0: 1, 18: done}, {0: 1, 18: done, 22: 1},
	{0: 1, 26: 16}, {0: 1, 27: top + 1}, {0: 1, 28: top + 1}, {0: 1, 29: 1}, {0: 1, 31: 1 << 63},
}

// Operations of the tests.
var (
	take  = api.Op{What: api.Take}
	count = api.Op{What: api.Count}
	peek  = api.Op{What: api.Peek}
)

func put(value int) api.Op { return api.Op{What: api.Put, Value: value} }

// ask is a thread's, with a toggle, of an operation.
func ask(thread, toggle int, o api.Op) batch.Ask {
	return batch.Ask{Thread: thread, Toggle: toggle, Op: o}
}

// deed is what was done: by which thread, an operation, answer (Code, Value).
func deed(thread int, o api.Op, code, value int) api.Deed {
	return api.Deed{Thread: thread, Op: o, Answer: api.Answer{Code: code, Value: value}}
}

// open asks whether an ask is open, twice.
func open(t *testing.T, r words, a batch.Ask, want bool) {
	t.Helper()
	for range 2 {
		if got, err := batch.Open(r, a); got != want || err != nil {
			t.Errorf("Open(%v, %v): %v, %v: want %v", r, a, got, err, want)
		}
	}
}

// notAsked likewise asks for an error, without a place, and false beside it.
func notAsked(t *testing.T, r words, a batch.Ask, want api.Errno) {
	t.Helper()
	for range 2 {
		got, err := batch.Open(r, a)
		if e, at := plain.Place(err); got || e != want || at != -1 {
			t.Errorf("Open(%v, %v): %v, %v at %d: want false and %v", r, a, got, e, at, want)
		}
	}
}

// told does asks twice, with something behind their length, and asks that nothing handed in is written into, and that what comes out is fresh.
func told(t *testing.T, r words, l []batch.Ask, want words, deeds []api.Deed, code api.Errno, place int) {
	t.Helper()
	whole := append(slices.Clone(l), ask(0, 1, put(77)), ask(1, 1, put(78)))
	l = whole[:len(l)]
	kept, before := slices.Clone(whole), r
	for range 2 {
		got, done, err := batch.Do(r, l)
		if e, at := plain.Place(err); got != want || !slices.Equal(done, deeds) || e != code || at != place {
			t.Errorf("Do(%v, %v):\n%v, %v, %v at %d: want\n%v, %v, %v at %d", r, l, got, done, e, at, want, deeds, code, place)
		}
		for i := range done {
			done[i] = api.Deed{Thread: 9}
		}
	}
	if r != before || !slices.Equal(whole, kept) {
		t.Errorf("Do: what was handed in was %v, %v and is %v, %v", before, kept, r, whole)
	}
}

// does asks for a record and deeds.
func does(t *testing.T, r words, l []batch.Ask, want words, deeds ...api.Deed) {
	t.Helper()
	told(t, r, l, want, deeds, api.OK, -1)
}

// fails asks for an error, with noughts and no deeds beside it (place -1: without a place).
func fails(t *testing.T, r words, l []batch.Ask, code api.Errno, place int) {
	t.Helper()
	told(t, r, l, words{}, nil, code, place)
}

// TestOpen: an ask is open if its toggle is another one than its thread's bit, whatever the record is otherwise, and whatever is asked for.
func TestOpen(t *testing.T) {
	for _, c := range []struct {
		r    words
		open [4][2]bool
	}{
		{words{0: 1}, [4][2]bool{{false, true}, {false, true}, {false, true}, {false, true}}},
		{words{0: 6}, [4][2]bool{{false, true}, {false, true}, {false, true}, {false, true}}},
		{words{0: 1, 26: 1}, [4][2]bool{{true, false}, {false, true}, {false, true}, {false, true}}},
		{words{0: 1, 26: 2}, [4][2]bool{{false, true}, {true, false}, {false, true}, {false, true}}},
		{words{0: 1, 26: 4}, [4][2]bool{{false, true}, {false, true}, {true, false}, {false, true}}},
		{words{0: 1, 26: 8}, [4][2]bool{{false, true}, {false, true}, {false, true}, {true, false}}},
		{words{0: 1, 26: 9}, [4][2]bool{{true, false}, {false, true}, {false, true}, {true, false}}},
		{words{0: 1, 26: 15}, [4][2]bool{{true, false}, {true, false}, {true, false}, {true, false}}},
		{words{0: 1, 1: 1, 2: 8, 18: wrong, 21: done, 22: 4, 25: 2, 26: 6, 27: 1, 28: 4}, [4][2]bool{{false, true}, {true, false}, {true, false}, {false, true}}},
		{words{}, [4][2]bool{{false, true}, {false, true}, {false, true}, {false, true}}},
		{words{0: 7, 26: math.MaxUint64 - 2}, [4][2]bool{{true, false}, {false, true}, {true, false}, {true, false}}},
		{words{26: 1<<63 + 16 + 4}, [4][2]bool{{false, true}, {false, true}, {true, false}, {false, true}}},
	} {
		for thread, by := range c.open {
			for toggle, want := range by {
				open(t, c.r, ask(thread, toggle, take), want)
				open(t, c.r, ask(thread, toggle, put(5)), want)
				open(t, c.r, ask(thread, toggle, api.Op{}), want)
			}
		}
	}
}

// TestOpenBehindDeeds: each deed of a thread opens the other toggle to it, and changes nothing for the others.
func TestOpenBehindDeeds(t *testing.T) {
	for kind := 1; kind <= 6; kind++ {
		r, _ := record.New(kind)
		var bits [4]int
		for _, thread := range []int{0, 3, 0, 0, 1, 2, 3, 2, 1, 1} {
			next, err := r.Done(thread, count)
			if err != nil {
				t.Fatalf("of %v Done(%d, count): %v", r, thread, err)
			}
			r = next
			bits[thread] = 1 - bits[thread]
			for other, bit := range bits {
				open(t, r, ask(other, bit, take), false)
				open(t, r, ask(other, 1-bit, take), true)
			}
		}
	}
}

func TestOpenErrors(t *testing.T) {
	for _, r := range []words{{0: 1}, {0: 2, 26: 15}, {}, {0: 9, 26: math.MaxUint64}} {
		for _, thread := range noThreads {
			for toggle := range 2 {
				notAsked(t, r, ask(thread, toggle, take), api.ErrRange)
			}
			for _, toggle := range noToggles {
				notAsked(t, r, ask(thread, toggle, api.Op{}), api.ErrRange)
			}
		}
		for thread := range 4 {
			for _, toggle := range noToggles {
				notAsked(t, r, ask(thread, toggle, take), api.ErrArg)
			}
		}
	}
}

// TestStory has each word written out: one batch behind the other.
func TestStory(t *testing.T) {
	front := api.Op{What: api.Front, Value: 1}
	a := words{0: 1, 27: 1}
	does(t, words{0: 1}, nil, a)
	b := words{0: 1, 1: 1, 2: 5, 20: done, 24: 1, 26: 4, 27: 2, 28: 1}
	does(t, a, []batch.Ask{ask(2, 1, put(5))}, b, deed(2, put(5), api.Done, 0))
	c := words{0: 1, 1: 1, 2: 8, 18: done + 5, 20: done, 21: done, 22: 3, 24: 1, 25: 2, 26: 13, 27: 3, 28: 3}
	does(t, b, []batch.Ask{ask(3, 1, put(8)), ask(2, 1, put(9)), ask(1, 0, put(9)), ask(0, 1, take)}, c,
		deed(3, put(8), api.Done, 0), deed(0, take, api.Done, 5))
	d := words{0: 1, 18: done + 5, 19: wrong, 20: done + 8, 21: empty, 22: 3, 23: 6, 24: 4, 25: 5, 26: 3, 27: 4, 28: 6}
	does(t, c, []batch.Ask{ask(2, 0, take), ask(3, 0, take), ask(1, 1, front)}, d,
		deed(2, take, api.Done, 8), deed(3, take, api.Empty, 0), deed(1, front, api.Wrong, 0))
	does(t, d, []batch.Ask{ask(0, 1, take), ask(1, 1, take), ask(2, 0, take), ask(3, 0, take)},
		words{0: 1, 18: done + 5, 19: wrong, 20: done + 8, 21: empty, 22: 3, 23: 6, 24: 4, 25: 5, 26: 3, 27: 5, 28: 6})
}

// TestOneThreadOften: an ask is open, or not, in the record that the asks ahead have made.
func TestOneThreadOften(t *testing.T) {
	does(t, words{0: 1}, []batch.Ask{ask(1, 1, put(5)), ask(1, 1, put(5)), ask(1, 1, put(6))},
		words{0: 1, 1: 1, 2: 5, 19: done, 23: 1, 26: 2, 27: 1, 28: 1}, deed(1, put(5), api.Done, 0))
	does(t, words{0: 1}, []batch.Ask{ask(1, 0, put(4)), ask(1, 1, put(5)), ask(1, 0, put(6)), ask(1, 0, put(7)), ask(1, 1, count)},
		words{0: 1, 1: 2, 2: 5, 3: 6, 19: done + 2, 23: 3, 26: 2, 27: 1, 28: 3},
		deed(1, put(5), api.Done, 0), deed(1, put(6), api.Done, 0), deed(1, count, api.Done, 2))
	does(t, words{0: 2, 1: 1, 2: 9, 26: 8}, []batch.Ask{ask(3, 0, take), ask(0, 1, take), ask(3, 0, put(1)), ask(3, 1, put(2)), ask(0, 1, put(3)), ask(0, 0, peek)},
		words{0: 2, 1: 1, 2: 2, 18: done + 2, 21: done, 22: 4, 25: 3, 26: 8, 27: 1, 28: 4},
		deed(3, take, api.Done, 9), deed(0, take, api.Empty, 0), deed(3, put(2), api.Done, 0), deed(0, peek, api.Done, 2))
}

// TestKinds: what is answered Empty, Full, Absent or Wrong is a deed all the same, and turns the toggle.
func TestKinds(t *testing.T) {
	key := func(what, key, value int) api.Op { return api.Op{What: what, Key: key, Value: value} }
	does(t, words{0: 2, 1: 6, 2: 1, 3: 2, 4: 3, 5: 4, 6: 5, 7: 6, 27: 3}, []batch.Ask{ask(0, 1, put(9)), ask(1, 1, take), ask(2, 1, put(9))},
		words{0: 2, 1: 6, 2: 1, 3: 2, 4: 3, 5: 4, 6: 5, 7: 9, 18: full, 19: done + 6, 20: done, 22: 1, 23: 2, 24: 3, 26: 7, 27: 4, 28: 3},
		deed(0, put(9), api.Full, 0), deed(1, take, api.Done, 6), deed(2, put(9), api.Done, 0))
	does(t, words{0: 3, 1: 1, 2: 5}, []batch.Ask{ask(3, 1, key(api.Front, 0, 3)), ask(2, 1, key(api.Back, 0, 0)), ask(3, 0, key(api.Back, 0, 0)), ask(3, 1, key(api.Back, 0, 0))},
		words{0: 3, 20: done + 5, 21: empty, 24: 2, 25: 4, 26: 12, 27: 1, 28: 4},
		deed(3, key(api.Front, 0, 3), api.Done, 0), deed(2, key(api.Back, 0, 0), api.Done, 5), deed(3, key(api.Back, 0, 0), api.Done, 3), deed(3, key(api.Back, 0, 0), api.Empty, 0))
	does(t, words{0: 4, 1: 2, 2: 5, 3: 8}, []batch.Ask{ask(0, 1, put(3)), ask(1, 1, take), ask(2, 1, key(api.Back, 0, 0))},
		words{0: 4, 1: 2, 2: 5, 3: 8, 18: done, 19: done + 3, 20: wrong, 22: 1, 23: 2, 24: 3, 26: 7, 27: 1, 28: 3},
		deed(0, put(3), api.Done, 0), deed(1, take, api.Done, 3), deed(2, key(api.Back, 0, 0), api.Wrong, 0))
	does(t, words{0: 5}, []batch.Ask{ask(0, 1, key(api.Put, 3, 7)), ask(1, 1, key(api.Peek, 4, 0)), ask(2, 1, put(1)), ask(3, 1, key(api.Take, 3, 0)), ask(0, 0, key(api.Take, 3, 0))},
		words{0: 5, 18: absent, 19: absent, 20: wrong, 21: done + 7, 22: 5, 23: 2, 24: 3, 25: 4, 26: 14, 27: 1, 28: 5},
		deed(0, key(api.Put, 3, 7), api.Done, 0), deed(1, key(api.Peek, 4, 0), api.Absent, 0), deed(2, put(1), api.Wrong, 0), deed(3, key(api.Take, 3, 0), api.Done, 7), deed(0, key(api.Take, 3, 0), api.Absent, 0))
	does(t, words{0: 6, 1: most}, []batch.Ask{ask(2, 1, put(1)), ask(1, 1, key(api.Take, 0, most)), ask(2, 0, key(api.Take, 0, 1)), ask(0, 1, count)},
		words{0: 6, 18: done, 19: done + most, 20: empty, 22: 4, 23: 2, 24: 3, 26: 3, 27: 1, 28: 4},
		deed(2, put(1), api.Full, 0), deed(1, key(api.Take, 0, most), api.Done, most), deed(2, key(api.Take, 0, 1), api.Empty, 0), deed(0, count, api.Done, 0))
}

// TestVersion: it is one more, whatever it was, and whether something was done or not.
func TestVersion(t *testing.T) {
	for kind := uint64(1); kind <= 6; kind++ {
		for _, v := range []uint64{0, 1, 2, 7, 255, most, top - 1, top} {
			for _, l := range [][]batch.Ask{nil, {}, {ask(0, 0, take)}, {ask(3, 0, take), ask(3, 0, put(1)), ask(1, 0, api.Op{})}} {
				does(t, words{0: kind, 27: v}, l, words{0: kind, 27: v + 1})
			}
			does(t, words{0: kind, 27: v}, []batch.Ask{ask(1, 1, count)}, words{0: kind, 19: done, 23: 1, 26: 2, 27: v + 1, 28: 1}, deed(1, count, api.Done, 0))
		}
	}
}

// TestNotRight: of a record that isn't Right there is no place, whatever the asks are.
func TestNotRight(t *testing.T) {
	for _, r := range spoilt {
		for _, l := range [][]batch.Ask{
			nil, {}, {ask(0, 0, take)}, {ask(0, 1, take)}, {ask(-1, 0, take)}, {ask(0, 2, take)}, {ask(0, 1, api.Op{})}, {ask(1, 0, take), ask(4, 1, take)},
		} {
			fails(t, r, l, api.ErrArg, -1)
		}
	}
}

// TestDoErrors: the first ask with an error is told, by its number; each ask is wholly ahead of the next one.
func TestDoErrors(t *testing.T) {
	good := []batch.Ask{ask(0, 1, put(5)), ask(1, 0, put(6)), ask(2, 1, put(7)), ask(0, 0, take), ask(0, 0, put(1))}
	for _, r := range []words{{0: 1}, {0: 5, 15: 3, 16: 7}, {0: 6, 1: 9, 27: top}} {
		for at := range len(good) + 1 {
			bad := func(a ...batch.Ask) []batch.Ask { return slices.Insert(slices.Clone(good), at, a...) }
			for _, thread := range noThreads {
				fails(t, r, bad(ask(thread, 0, take)), api.ErrRange, at)
				fails(t, r, bad(ask(thread, 2, api.Op{})), api.ErrRange, at)
				fails(t, r, bad(ask(thread, 1, take), ask(3, 2, take)), api.ErrRange, at)
			}
			for _, toggle := range noToggles {
				fails(t, r, bad(ask(3, toggle, take)), api.ErrArg, at)
				fails(t, r, bad(ask(3, toggle, api.Op{}), ask(4, 1, take)), api.ErrArg, at)
				fails(t, r, bad(ask(0, toggle, take)), api.ErrArg, at)
			}
			for _, o := range wrongOps {
				fails(t, r, bad(ask(3, 1, o)), api.ErrArg, at)
				fails(t, r, bad(ask(3, 1, o), ask(-1, 0, take)), api.ErrArg, at)
				fails(t, r, bad(ask(-1, 1, take), ask(3, 1, o)), api.ErrRange, at)
				fails(t, r, bad(ask(3, 1, take), ask(3, 1, o), ask(3, 0, o)), api.ErrArg, at+2)
				fails(t, r, bad(ask(3, 0, o), ask(3, 0, o), ask(4, 0, o)), api.ErrRange, at+2)
			}
		}
	}
}

// TestNotOpenNotAsked: of an ask that isn't open nobody asks whether its operation is Right.
func TestNotOpenNotAsked(t *testing.T) {
	for _, o := range wrongOps {
		does(t, words{0: 1}, []batch.Ask{ask(0, 0, o)}, words{0: 1, 27: 1})
		does(t, words{0: 1, 26: 8}, []batch.Ask{ask(3, 1, o), ask(2, 0, o)}, words{0: 1, 26: 8, 27: 1})
		does(t, words{0: 1}, []batch.Ask{ask(1, 1, put(5)), ask(1, 1, o)}, words{0: 1, 1: 1, 2: 5, 19: done, 23: 1, 26: 2, 27: 1, 28: 1}, deed(1, put(5), api.Done, 0))
	}
}

// TestMostDeeds: where there were as many deeds as may be, one more is done, and behind it the record isn't Right, which Done tells of the next one.
func TestMostDeeds(t *testing.T) {
	r := words{0: 1, 28: top}
	after := words{0: 1, 18: done, 22: top + 1, 26: 1, 27: 1, 28: top + 1}
	does(t, r, []batch.Ask{ask(0, 1, count)}, after, deed(0, count, api.Done, 0))
	does(t, r, []batch.Ask{ask(0, 1, count), ask(0, 1, count), ask(1, 0, count)}, after, deed(0, count, api.Done, 0))
	fails(t, r, []batch.Ask{ask(0, 1, count), ask(0, 1, count), ask(1, 1, count)}, api.ErrArg, 2)
	fails(t, r, []batch.Ask{ask(0, 1, count), ask(4, 1, count)}, api.ErrRange, 1)
}

// plainly is what the document says of asks, word by word: a record, deeds, an error and its place.
func plainly(r words, l []batch.Ask) (words, []api.Deed, api.Errno, int) {
	var deeds []api.Deed
	for i, a := range l {
		if a.Thread < 0 || a.Thread > 3 {
			return words{}, nil, api.ErrRange, i
		}
		if a.Toggle < 0 || a.Toggle > 1 {
			return words{}, nil, api.ErrArg, i
		}
		bit := []uint64{1, 2, 4, 8}[a.Thread]
		if (r[26]&bit != 0) == (a.Toggle == 1) {
			continue
		}
		c, answer, err := object.Do(int(r[0]), object.Cells(r[1:18]), a.Op)
		if err != nil {
			return words{}, nil, api.ErrArg, i
		}
		copy(r[1:18], c[:])
		r[28]++
		r[18+a.Thread] = uint64(answer.Code)*done + uint64(answer.Value)
		r[22+a.Thread] = r[28]
		r[26] ^= bit
		deeds = append(deeds, deed(a.Thread, a.Op, answer.Code, answer.Value))
	}
	r[27]++
	return r, deeds, api.OK, -1
}

// TestLongStories does drawn asks with objects of each kind, one batch behind the other.
func TestLongStories(t *testing.T) {
	draw := uint64(11)
	next := func(n int) int {
		draw = draw*6364136223846793005 + 1442695040888963407
		return int((draw >> 33) % uint64(n))
	}
	values := []int{0, 1, 2, 3, 1 << 31, most - 1, most}
	codes, errs, many := map[int]int{}, map[api.Errno]int{}, map[int]int{}
	for kind := 1; kind <= 6; kind++ {
		for range 30 {
			r, _ := record.New(kind)
			for range 20 {
				var l []batch.Ask
				for range next(8) {
					a := ask(next(4), next(2), api.Op{What: []int{1, 1, 1, 2, 2, 3, 4, 5, 6}[next(9)], Key: next(12), Value: values[next(len(values))]})
					switch next(120) {
					case 0:
						a.Thread = noThreads[next(len(noThreads))]
					case 1:
						a.Toggle = noToggles[next(len(noToggles))]
					case 2:
						a.Op = wrongOps[next(len(wrongOps))]
					}
					l = append(l, a)
				}
				want, deeds, code, place := plainly(r, l)
				told(t, r, l, want, deeds, code, place)
				errs[code]++
				many[len(deeds)]++
				for _, d := range deeds {
					codes[d.Answer.Code]++
				}
				if code == api.OK {
					r = want
				}
			}
		}
	}
	if errs[api.OK] < 1000 || errs[api.ErrRange] < 30 || errs[api.ErrArg] < 30 || many[0] < 100 || many[3] < 100 || many[6] < 10 {
		t.Errorf("errors %v, deeds at once %v: too few to tell", errs, many)
	}
	for code := 1; code <= 5; code++ {
		if codes[code] < 100 {
			t.Errorf("code %d was there %d times: too seldom to tell", code, codes[code])
		}
	}
}
