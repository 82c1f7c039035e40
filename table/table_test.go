package table_test

import (
	"math"
	"slices"
	"testing"

	"gristmill/api"
	"gristmill/table"
)

type slots = table.Slots
type slot = table.Slot

// homes: where keys would stand, written out: some alone, and some one beside the other in the last slot and in the first.
var homes = map[int]int{
	1: 5, 2: 2, 3: 7, 4: 4, 5: 1, 6: 6, 7: 3, 8: 0, 9: 5, 10: 2, 11: 7, 13: 1, 16: 0, 19: 7, 999: 3, 1000: 0,
}

// full has just as many as there is room for; slots 3 and 4 are free. 3, 11 and 19 would all stand in slot 7; 5 had to go on because of them.
var full = slots{0: {11, 2}, 1: {19, 3}, 2: {5, 5}, 5: {1, 6}, 6: {6, 4}, 7: {3, 1}}

// Whats that a table doesn't do, and some that would pass if they were cut to 32, or to 8, bits.
var wrongWhats = []int{
	api.Front, api.Back, 0, -1, -api.Put, -api.Count, api.Count + 1, api.Count + 2, 1<<8 + api.Put,
	1<<32 + api.Put, 1<<32 + api.Count, math.MinInt, math.MinInt + api.Take, math.MaxInt,
}

// Keys that no table has, likewise.
var wrongKeys = []int{0, -1, -3, -1000, api.MaxKey + 1, api.MaxKey + 2, 1<<8 + 1000, 1 << 32, 1<<32 + 3, math.MinInt, math.MinInt + 3, math.MaxInt}

// asked is an operation (What, Key, Value), the answer to it (Code, Value), and what the slots are then.
type asked struct {
	what, key, value int
	code, told       int
	want             slots
}

// tell does one operation behind the other, from some slots on.
func tell(t *testing.T, s slots, story ...asked) {
	t.Helper()
	for i, c := range story {
		o, want := api.Op{What: c.what, Key: c.key, Value: c.value}, api.Answer{Code: c.code, Value: c.told}
		before := s
		got, a := table.Do(s, o)
		if got != c.want || a != want {
			t.Errorf("number %d: Do(%v, %v): %v, %v: want %v, %v", i, s, o, got, a, c.want, want)
		}
		if s != before {
			t.Errorf("number %d: Do(%v, %v): what was handed in is %v", i, before, o, s)
		}
		if again, b := table.Do(s, o); again != got || b != a {
			t.Errorf("number %d: Do(%v, %v) once more: %v, %v: want %v, %v", i, s, o, again, b, got, a)
		}
		s = got
	}
}

func TestPutTakePeekCount(t *testing.T) {
	var none slots
	one := slots{7: {3, 7}}
	two := slots{5: {1, 9}, 7: {3, 7}}
	other := slots{5: {1, 9}, 7: {3, 8}}
	last := slots{5: {1, 9}}
	tell(t, none,
		asked{api.Count, 0, 0, api.Done, 0, none},
		asked{api.Peek, 3, 0, api.Absent, 0, none},
		asked{api.Put, 3, 7, api.Done, 0, one},
		asked{api.Peek, 3, 0, api.Done, 7, one},
		asked{api.Peek, 3, 5, api.Done, 7, one},
		asked{api.Count, 0, 0, api.Done, 1, one},
		asked{api.Put, 1, 9, api.Done, 0, two},
		asked{api.Count, 0, 0, api.Done, 2, two},
		asked{api.Peek, 1, 0, api.Done, 9, two},
		asked{api.Peek, 3, 0, api.Done, 7, two},
		asked{api.Put, 3, 8, api.Done, 0, other},
		asked{api.Count, 0, 0, api.Done, 2, other},
		asked{api.Take, 2, 0, api.Absent, 0, other},
		asked{api.Take, 3, 0, api.Done, 8, last},
		asked{api.Take, 3, 0, api.Absent, 0, last},
		asked{api.Peek, 3, 0, api.Absent, 0, last},
		asked{api.Take, 1, 6, api.Done, 9, none},
		asked{api.Count, 0, 0, api.Done, 0, none},
	)
}

func TestHomes(t *testing.T) {
	for key, at := range homes {
		var want slots
		want[at] = slot{key, 4}
		tell(t, slots{}, asked{api.Put, key, 4, api.Done, 0, want}, asked{api.Take, key, 0, api.Done, 4, slots{}})
		if !table.Right(want) {
			t.Errorf("Right(%v): false", want)
		}
		for i := range 7 {
			var elsewhere slots
			elsewhere[(at+1+i)%8] = slot{key, 4}
			if table.Right(elsewhere) {
				t.Errorf("Right(%v): true", elsewhere)
			}
		}
	}
}

// TestRoundFromTheLastSlot: keys of one home stand one behind the other, behind the last slot in the first ones; each of them, taken, is gone, and the others are found.
func TestRoundFromTheLastSlot(t *testing.T) {
	three := slots{0: {11, 2}, 1: {19, 3}, 7: {3, 1}}
	tell(t, slots{},
		asked{api.Put, 3, 1, api.Done, 0, slots{7: {3, 1}}},
		asked{api.Put, 11, 2, api.Done, 0, slots{0: {11, 2}, 7: {3, 1}}},
		asked{api.Put, 19, 3, api.Done, 0, three},
		asked{api.Peek, 3, 0, api.Done, 1, three},
		asked{api.Peek, 11, 0, api.Done, 2, three},
		asked{api.Peek, 19, 0, api.Done, 3, three},
		asked{api.Peek, 27, 0, api.Absent, 0, three},
		asked{api.Take, 27, 0, api.Absent, 0, three},
		asked{api.Peek, 8, 0, api.Absent, 0, three},
		asked{api.Put, 11, 5, api.Done, 0, slots{0: {11, 5}, 1: {19, 3}, 7: {3, 1}}},
	)
	tell(t, three,
		asked{api.Take, 3, 0, api.Done, 1, slots{0: {19, 3}, 7: {11, 2}}},
		asked{api.Peek, 11, 0, api.Done, 2, slots{0: {19, 3}, 7: {11, 2}}},
		asked{api.Peek, 19, 0, api.Done, 3, slots{0: {19, 3}, 7: {11, 2}}},
	)
	tell(t, three,
		asked{api.Take, 11, 0, api.Done, 2, slots{0: {19, 3}, 7: {3, 1}}},
		asked{api.Take, 3, 0, api.Done, 1, slots{7: {19, 3}}},
		asked{api.Take, 19, 0, api.Done, 3, slots{}},
	)
	tell(t, three, asked{api.Take, 19, 0, api.Done, 3, slots{0: {11, 2}, 7: {3, 1}}})
}

// TestTakeAndWhatStandsBehind: what had to go on comes nearer, what stands in its own slot stays, and behind a free slot all is as it was.
func TestTakeAndWhatStandsBehind(t *testing.T) {
	for _, c := range []struct {
		from slots
		key  int
		told int
		want slots
	}{
		{slots{0: {8, 1}, 1: {5, 2}, 2: {16, 3}}, 8, 1, slots{0: {16, 3}, 1: {5, 2}}},
		{slots{0: {8, 1}, 1: {16, 3}, 2: {5, 2}}, 8, 1, slots{0: {16, 3}, 1: {5, 2}}},
		{slots{0: {8, 1}, 1: {16, 3}, 2: {5, 2}}, 16, 3, slots{0: {8, 1}, 1: {5, 2}}},
		{slots{0: {8, 1}, 1: {5, 2}, 2: {2, 3}}, 8, 1, slots{1: {5, 2}, 2: {2, 3}}},
		{slots{0: {8, 1}, 1: {5, 2}, 2: {13, 3}}, 8, 1, slots{1: {5, 2}, 2: {13, 3}}},
		{slots{0: {8, 1}, 1: {16, 2}, 2: {2, 3}, 3: {10, 4}}, 8, 1, slots{0: {16, 2}, 2: {2, 3}, 3: {10, 4}}},
		{slots{0: {8, 1}, 2: {2, 3}, 3: {10, 4}}, 8, 1, slots{2: {2, 3}, 3: {10, 4}}},
		{slots{5: {1, 1}, 6: {6, 2}, 7: {9, 3}, 0: {3, 4}}, 1, 1, slots{5: {9, 3}, 6: {6, 2}, 7: {3, 4}}},
		{slots{5: {1, 1}, 6: {6, 2}, 7: {9, 3}, 0: {3, 4}}, 6, 2, slots{5: {1, 1}, 6: {9, 3}, 7: {3, 4}}},
		{slots{6: {6, 1}, 7: {14, 2}, 0: {3, 3}, 1: {8, 4}, 2: {5, 5}}, 6, 1, slots{6: {14, 2}, 7: {3, 3}, 0: {8, 4}, 1: {5, 5}}},
		{full, 3, 1, slots{0: {19, 3}, 1: {5, 5}, 5: {1, 6}, 6: {6, 4}, 7: {11, 2}}},
		{full, 1, 6, slots{0: {11, 2}, 1: {19, 3}, 2: {5, 5}, 6: {6, 4}, 7: {3, 1}}},
		{full, 6, 4, slots{0: {11, 2}, 1: {19, 3}, 2: {5, 5}, 5: {1, 6}, 7: {3, 1}}},
	} {
		if !table.Right(c.from) || !table.Right(c.want) {
			t.Errorf("Right(%v): %v, Right(%v): %v", c.from, table.Right(c.from), c.want, table.Right(c.want))
		}
		tell(t, c.from, asked{api.Take, c.key, 9, api.Done, c.told, c.want}, asked{api.Take, c.key, 9, api.Absent, 0, c.want})
	}
}

// TestRoom: a table is full of Room keys for a new one, and never for one that is there.
func TestRoom(t *testing.T) {
	five := full
	five[5] = slot{}
	tell(t, five,
		asked{api.Put, 3, 10, api.Done, 0, slots{0: {11, 2}, 1: {19, 3}, 2: {5, 5}, 6: {6, 4}, 7: {3, 10}}},
		asked{api.Put, 1, 11, api.Done, 0, slots{0: {11, 2}, 1: {19, 3}, 2: {5, 5}, 5: {1, 11}, 6: {6, 4}, 7: {3, 10}}},
	)
	tell(t, five,
		asked{api.Put, 8, 6, api.Done, 0, slots{0: {11, 2}, 1: {19, 3}, 2: {5, 5}, 3: {8, 6}, 6: {6, 4}, 7: {3, 1}}},
		asked{api.Put, 16, 6, api.Full, 0, slots{0: {11, 2}, 1: {19, 3}, 2: {5, 5}, 3: {8, 6}, 6: {6, 4}, 7: {3, 1}}},
	)
	for _, key := range []int{2, 4, 7, 8, 9, 27, 999, 1000} {
		tell(t, full,
			asked{api.Put, key, 0, api.Full, 0, full},
			asked{api.Put, key, 7, api.Full, 0, full},
			asked{api.Take, key, 7, api.Absent, 0, full},
			asked{api.Peek, key, 7, api.Absent, 0, full},
			asked{api.Count, key, 7, api.Done, 6, full},
		)
	}
	for at, s := range full {
		if s.Key != 0 {
			want := full
			want[at].Value = 77
			tell(t, full, asked{api.Put, s.Key, 77, api.Done, 0, want}, asked{api.Peek, s.Key, 0, api.Done, 77, want})
		}
	}
	left := slots{0: {11, 2}, 1: {19, 3}, 2: {5, 5}, 5: {1, 6}, 7: {3, 1}}
	tell(t, full,
		asked{api.Take, 6, 0, api.Done, 4, left},
		asked{api.Count, 0, 0, api.Done, 5, left},
		asked{api.Put, 9, 8, api.Done, 0, slots{0: {11, 2}, 1: {19, 3}, 2: {5, 5}, 5: {1, 6}, 6: {9, 8}, 7: {3, 1}}},
	)
}

func TestLeastAndGreatest(t *testing.T) {
	least, greatest := slots{5: {1, 0}}, slots{0: {1000, 4294967295}, 5: {1, 0}}
	tell(t, slots{},
		asked{api.Put, 1, 0, api.Done, 0, least},
		asked{api.Peek, 1, 9, api.Done, 0, least},
		asked{api.Put, 1000, 4294967295, api.Done, 0, greatest},
		asked{api.Peek, 1000, 9, api.Done, 4294967295, greatest},
		asked{api.Take, 1, 9, api.Done, 0, slots{0: {1000, 4294967295}}},
		asked{api.Take, 1000, 9, api.Done, 4294967295, slots{}},
		asked{api.Put, 1000, 0, api.Done, 0, slots{0: {1000, 0}}},
		asked{api.Count, 0, 0, api.Done, 1, slots{0: {1000, 0}}},
	)
}

// TestPutAsksNothingOfTheValue: the document names no bound of it there; slots with such a value are not Right.
func TestPutAsksNothingOfTheValue(t *testing.T) {
	for _, v := range []int{-1, 4294967296, math.MinInt, math.MaxInt} {
		s := slots{7: {3, v}}
		tell(t, slots{}, asked{api.Put, 3, v, api.Done, 0, s})
		if table.Right(s) {
			t.Errorf("Right(%v): true", s)
		}
	}
}

func TestWrong(t *testing.T) {
	for _, s := range []slots{{}, {7: {3, 7}}, {0: {11, 2}, 7: {3, 1}}, full} {
		for _, what := range wrongWhats {
			for _, key := range slices.Concat([]int{1, 3, 4, 1000}, wrongKeys) {
				tell(t, s, asked{what, key, 5, api.Wrong, 0, s})
			}
		}
		for _, key := range wrongKeys {
			for _, what := range []int{api.Put, api.Take, api.Peek} {
				tell(t, s, asked{what, key, 0, api.Wrong, 0, s}, asked{what, key, 5, api.Wrong, 0, s})
			}
			tell(t, s, asked{api.Count, key, 5, api.Done, table.Len(s), s}, asked{api.Count, key, math.MinInt, api.Done, table.Len(s), s})
		}
	}
}

func TestLenAndRight(t *testing.T) {
	for _, c := range []struct {
		s     slots
		n     int
		right bool
	}{
		{slots{}, 0, true},
		{slots{7: {3, 7}}, 1, true},
		{full, 6, true},
		{slots{{8, 0}, {5, 0}, {2, 0}, {7, 0}, {4, 0}, {1, 0}, {}, {}}, 6, true},
		{slots{{8, 0}, {5, 0}, {2, 0}, {7, 0}, {4, 0}, {1, 0}, {6, 0}, {}}, 7, false},
		{slots{{8, 0}, {5, 0}, {2, 0}, {7, 0}, {4, 0}, {1, 0}, {6, 0}, {3, 0}}, 8, false},

		// Keys, each where it would stand if it might.
		{slots{0: {1000, 1}}, 1, true},
		{slots{5: {1001, 1}}, 1, false},
		{slots{2: {1002, 1}}, 1, false},
		{slots{3: {-1, 1}}, 1, false},
		{slots{5: {-1, 1}}, 1, false},
		{slots{0: {-8, 1}}, 1, false},
		{slots{0: {math.MinInt, 0}}, 1, false},
		{slots{3: {math.MaxInt, 0}}, 1, false},
		{slots{7: {1<<32 + 3, 0}}, 1, false},

		// Values.
		{slots{7: {3, 0}}, 1, true},
		{slots{7: {3, 4294967295}}, 1, true},
		{slots{7: {3, 4294967296}}, 1, false},
		{slots{7: {3, -1}}, 1, false},
		{slots{7: {3, math.MaxInt}}, 1, false},
		{slots{7: {3, math.MinInt}}, 1, false},

		// Free slots with a value.
		{slots{7: {3, 7}, 0: {0, 1}}, 1, false},
		{slots{0: {0, 1}}, 0, false},
		{slots{4: {0, -1}}, 0, false},
		{slots{7: {0, 4294967295}}, 0, false},
		{slots{7: {0, 4294967296}}, 0, false},

		// A free slot ahead in a row.
		{slots{0: {3, 7}}, 1, false},
		{slots{6: {3, 7}}, 1, false},
		{slots{7: {3, 7}, 0: {11, 7}}, 2, true},
		{slots{7: {3, 7}, 1: {11, 7}}, 2, false},
		{slots{0: {8, 7}, 1: {11, 7}}, 2, false},
		{slots{7: {3, 7}, 0: {8, 7}, 1: {11, 7}}, 3, true},
		{slots{6: {6, 7}, 0: {14, 7}}, 2, false},
		{slots{7: {11, 7}, 0: {3, 7}}, 2, true},

		// The same key twice.
		{slots{7: {3, 7}, 0: {3, 7}}, 2, false},
		{slots{7: {3, 7}, 0: {3, 8}}, 2, false},
		{slots{7: {3, 7}, 0: {11, 7}, 1: {3, 7}}, 3, false},
		{slots{7: {3, 7}, 4: {3, 7}}, 2, false},
		{slots{0: {8, 1}, 1: {16, 1}, 2: {24, 1}, 3: {8, 1}}, 4, false},
		{slots{0: {8, 1}, 1: {16, 1}, 2: {24, 1}, 3: {32, 1}}, 4, true},
	} {
		before := c.s
		if n := table.Len(c.s); n != c.n {
			t.Errorf("Len(%v): %d: want %d", c.s, n, c.n)
		}
		if right := table.Right(c.s); right != c.right {
			t.Errorf("Right(%v): %v", c.s, right)
		}
		if c.s != before {
			t.Errorf("%v is %v", before, c.s)
		}
	}
}

// right is the document's word of it, slot by slot back to each key's home.
func right(s slots) bool {
	n := 0
	for i := range s {
		if s[i].Key == 0 {
			continue
		}
		n++
		for at := i; at != homes[s[i].Key]; {
			at = (at + 7) % 8
			if s[at].Key == 0 || s[at].Key == s[i].Key {
				return false
			}
		}
	}
	return n <= 6
}

// TestEachRight: of all slots with some keys of three homes, one home beside the other and round the end, just those are Right that the document's words say.
func TestEachRight(t *testing.T) {
	rights := 0
	var more func(s slots, at int)
	more = func(s slots, at int) {
		if at == 8 {
			want := right(s)
			if want {
				rights++
			}
			if table.Right(s) != want {
				t.Errorf("Right(%v): %v", s, !want)
			}
			return
		}
		for _, key := range []int{0, 3, 11, 8, 6} {
			s[at].Key = key
			more(s, at+1)
		}
	}
	more(slots{}, 0)
	if rights < 20 {
		t.Errorf("%d are right: too few to tell", rights)
	}
}

// added is a table with one more: in the first free slot from its home on.
func added(s slots, key, value int) slots {
	at := homes[key]
	for s[at].Key != 0 && s[at].Key != key {
		at = (at + 1) % 8
	}
	s[at] = slot{key, value}
	return s
}

// moved is a table without the one at a place: whichever would stand there or ahead of it moves there, and leaves its own place. It comes to what the document tells by another way.
func moved(s slots, gap int) slots {
	s[gap] = slot{}
	for at := (gap + 1) % 8; s[at].Key != 0; at = (at + 1) % 8 {
		if (at-homes[s[at].Key]+8)%8 >= (at-gap+8)%8 {
			s[gap], s[at], gap = s[at], slot{}, at
		}
	}
	return s
}

// each calls a function with the table that comes of each way of putting in some of the keys.
func each(keys []int, f func(s slots, in []int)) {
	var more func(s slots, in []int)
	more = func(s slots, in []int) {
		f(s, in)
		for _, k := range keys {
			if !slices.Contains(in, k) && len(in) < 6 {
				more(added(s, k, 100+len(in)), append(slices.Clone(in), k))
			}
		}
	}
	more(slots{}, nil)
}

// TestEachTable: in whatever order keys go in, each has its value, whatever of them is taken, and just what is there is found.
func TestEachTable(t *testing.T) {
	keys := []int{3, 11, 19, 8, 16, 5, 6, 1}
	each(keys, func(s slots, in []int) {
		if !table.Right(s) || table.Len(s) != len(in) {
			t.Errorf("%v: Right %v, Len %d", s, table.Right(s), table.Len(s))
		}
		tell(t, s, asked{api.Count, 0, 0, api.Done, len(in), s})
		for _, k := range keys {
			i := slices.Index(in, k)
			switch {
			case i >= 0:
				at := slices.Index(s[:], slot{k, 100 + i})
				less := moved(s, at)
				tell(t, s, asked{api.Peek, k, 0, api.Done, 100 + i, s}, asked{api.Take, k, 0, api.Done, 100 + i, less})
				tell(t, s, asked{api.Put, k, 9, api.Done, 0, added(s, k, 9)})
				if !table.Right(less) {
					t.Errorf("Right(%v): false", less)
				}
				foundStill(t, less, in, i)
			case len(in) < 6:
				tell(t, s, asked{api.Peek, k, 0, api.Absent, 0, s}, asked{api.Take, k, 0, api.Absent, 0, s})
				tell(t, s, asked{api.Put, k, 9, api.Done, 0, added(s, k, 9)})
			default:
				tell(t, s, asked{api.Peek, k, 0, api.Absent, 0, s}, asked{api.Take, k, 0, api.Absent, 0, s})
				tell(t, s, asked{api.Put, k, 9, api.Full, 0, s})
			}
		}
	})
}

// foundStill: all that went in are there, but the one that was taken.
func foundStill(t *testing.T, s slots, in []int, taken int) {
	t.Helper()
	for i, k := range in {
		want := api.Answer{Code: api.Done, Value: 100 + i}
		if i == taken {
			want = api.Answer{Code: api.Absent}
		}
		if _, a := table.Do(s, api.Op{What: api.Peek, Key: k}); a != want {
			t.Errorf("Peek of %d in %v: %v: want %v", k, s, a, want)
		}
	}
}

// TestLongStories holds a table against a plain map, operation upon operation, with keys of all homes.
func TestLongStories(t *testing.T) {
	draw := uint64(9)
	next := func(n int) int {
		draw = draw*6364136223846793005 + 1442695040888963407
		return int((draw >> 33) % uint64(n))
	}
	seen := map[int]int{}
	for range 300 {
		var s slots
		plain := map[int]int{}
		span := 8 + next(993)
		for range 100 {
			o := api.Op{What: []int{1, 1, 1, 2, 2, 5, 6}[next(7)], Key: 1 + next(span), Value: next(5)}
			if next(2) == 0 {
				o.Key = []int{3, 11, 19, 27, 1000, 8, 16, 999, 7}[next(9)]
			}
			want := toldOfMap(plain, o)
			var a api.Answer
			s, a = table.Do(s, o)
			if a != want || table.Len(s) != len(plain) || !table.Right(s) {
				t.Fatalf("%v: %v, %v: want %v and %d keys", o, s, a, want, len(plain))
			}
			seen[o.What*10+a.Code]++
		}
	}
	for _, c := range []int{11, 13, 21, 24, 51, 54, 61} {
		if seen[c] < 100 {
			t.Errorf("What and Code %d came %d times: too seldom to tell", c, seen[c])
		}
	}
}

// toldOfMap does an operation (of a right key) with a map of at most six.
func toldOfMap(m map[int]int, o api.Op) api.Answer {
	v, ok := m[o.Key]
	switch {
	case o.What == 6:
		return api.Answer{Code: 1, Value: len(m)}
	case o.What == 1 && !ok && len(m) == 6:
		return api.Answer{Code: 3}
	case o.What == 1:
		m[o.Key] = o.Value
		return api.Answer{Code: 1}
	case !ok:
		return api.Answer{Code: 4}
	case o.What == 2:
		delete(m, o.Key)
	}
	return api.Answer{Code: 1, Value: v}
}

// TestAnySlots: of slots that are not Right nothing is told, but that each call ends, and leaves what was handed in alone.
func TestAnySlots(t *testing.T) {
	draw := uint64(4)
	next := func(n int) int {
		draw = draw*6364136223846793005 + 1442695040888963407
		return int((draw >> 33) % uint64(n))
	}
	odd := []int{3, 11, 8, 5, 1000, 1001, -1, -3, -8, math.MinInt, math.MaxInt, math.MinInt + 5, 1 << 62, 0}
	for n := range 4000 {
		var s slots
		for i := range s {
			// At times all eight are taken: no row has a free slot then.
			s[i] = slot{odd[next(len(odd)-n%2)], odd[next(len(odd))]}
		}
		before := s
		for _, what := range slices.Concat([]int{api.Put, api.Take, api.Peek, api.Count}, wrongWhats) {
			for _, key := range odd {
				table.Do(s, api.Op{What: what, Key: key, Value: key})
			}
		}
		table.Len(s)
		table.Right(s)
		if s != before {
			t.Fatalf("%v is %v", before, s)
		}
	}
}
