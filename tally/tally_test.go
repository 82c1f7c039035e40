package tally_test

import (
	"math"
	"math/big"
	"testing"

	"gristmill/api"
	"gristmill/tally"
)

// most is MaxValue, written out.
const most = 4294967295

// Numbers from 0 to MaxValue: the edges, such as come to MaxValue or one more together, and some between.
var someNumbers = []int{
	0, 1, 2, 3, 9, 10, 1<<16 - 1, 1 << 16, 1<<31 - 2, 1<<31 - 1, 1 << 31, 1<<31 + 1, most - 10, most - 9, most - 3, most - 2, most - 1, most,
}

// Whats that a tally doesn't do, and some that would pass if they were cut to 32, or to 8, bits.
var wrongWhats = []int{
	api.Front, api.Back, 0, -1, -2, -api.Put, -api.Count, api.Count + 1, api.Count + 2, 1<<8 + api.Put, 1<<8 + api.Count,
	1<<32 + api.Put, 1<<32 + api.Take, 1<<32 + api.Peek, math.MinInt, math.MinInt + api.Put, math.MaxInt,
}

// asked is an operation (What, Value), the answer to it (Code, Value), and what a tally is then.
type asked struct {
	what, value int
	code, told  int
	want        int
}

// tell does one operation behind the other, from a number on; the Key is asked nothing of, and each is answered the same each time.
func tell(t *testing.T, n int, story ...asked) {
	t.Helper()
	for i, c := range story {
		for _, key := range []int{0, 3, 1000, 0} {
			o, want := api.Op{What: c.what, Key: key, Value: c.value}, api.Answer{Code: c.code, Value: c.told}
			if got, a := tally.Do(n, o); got != c.want || a != want {
				t.Errorf("number %d: Do(%d, %v): %d, %v: want %d, %v", i, n, o, got, a, c.want, want)
			}
		}
		n = c.want
	}
}

func TestPutTakePeekCount(t *testing.T) {
	tell(t, 0,
		asked{api.Count, 0, api.Done, 0, 0},
		asked{api.Peek, 0, api.Done, 0, 0},
		asked{api.Put, 5, api.Done, 0, 5},
		asked{api.Peek, 0, api.Done, 5, 5},
		asked{api.Count, 0, api.Done, 5, 5},
		asked{api.Put, 7, api.Done, 5, 12},
		asked{api.Peek, 3, api.Done, 12, 12},
		asked{api.Count, 3, api.Done, 12, 12},
		asked{api.Put, 0, api.Done, 12, 12},
		asked{api.Take, 0, api.Done, 12, 12},
		asked{api.Take, 4, api.Done, 12, 8},
		asked{api.Take, 9, api.Empty, 0, 8},
		asked{api.Take, 1, api.Done, 8, 7},
		asked{api.Front, 1, api.Wrong, 0, 7},
		asked{api.Back, 1, api.Wrong, 0, 7},
		asked{api.Put, most, api.Full, 0, 7},
		asked{api.Take, 7, api.Done, 7, 0},
		asked{api.Take, 1, api.Empty, 0, 0},
		asked{api.Count, 0, api.Done, 0, 0},
	)
}

// TestFull: what comes to just MaxValue is done, and one more is not.
func TestFull(t *testing.T) {
	tell(t, 0, asked{api.Put, most, api.Done, 0, most}, asked{api.Put, 0, api.Done, most, most}, asked{api.Put, 1, api.Full, 0, most})
	tell(t, 1, asked{api.Put, most, api.Full, 0, 1}, asked{api.Put, most - 1, api.Done, 1, most})
	tell(t, most, asked{api.Put, most, api.Full, 0, most}, asked{api.Peek, 9, api.Done, most, most}, asked{api.Count, 9, api.Done, most, most})
	tell(t, most-1, asked{api.Put, 2, api.Full, 0, most - 1}, asked{api.Put, 1, api.Done, most - 1, most})
	tell(t, 1<<31, asked{api.Put, 1 << 31, api.Full, 0, 1 << 31}, asked{api.Put, 1<<31 - 1, api.Done, 1 << 31, most})
}

// TestEmpty: a Value that is n is taken off, and one more is not.
func TestEmpty(t *testing.T) {
	tell(t, 0, asked{api.Take, 0, api.Done, 0, 0}, asked{api.Take, 1, api.Empty, 0, 0}, asked{api.Take, most, api.Empty, 0, 0})
	tell(t, 6, asked{api.Take, 7, api.Empty, 0, 6}, asked{api.Take, 6, api.Done, 6, 0}, asked{api.Take, 6, api.Empty, 0, 0})
	tell(t, most-1, asked{api.Take, most, api.Empty, 0, most - 1}, asked{api.Take, most - 1, api.Done, most - 1, 0})
	tell(t, most, asked{api.Take, most, api.Done, most, 0})
	tell(t, most, asked{api.Take, most - 1, api.Done, most, 1}, asked{api.Take, 2, api.Empty, 0, 1}, asked{api.Take, 1, api.Done, 1, 0})
}

func TestWrong(t *testing.T) {
	for _, n := range someNumbers {
		for _, what := range wrongWhats {
			for _, value := range someNumbers {
				tell(t, n, asked{what, value, api.Wrong, 0, n})
			}
		}
	}
}

// told is what the document says, reckoned in numbers that have no bound.
func told(what, n, value int) asked {
	sum := new(big.Int).Add(big.NewInt(int64(n)), big.NewInt(int64(value)))
	rest := new(big.Int).Sub(big.NewInt(int64(n)), big.NewInt(int64(value)))
	switch {
	case what == 1 && sum.Cmp(big.NewInt(most)) > 0:
		return asked{what, value, 3, 0, n}
	case what == 1:
		return asked{what, value, 1, n, int(sum.Int64())}
	case what == 2 && rest.Sign() < 0:
		return asked{what, value, 2, 0, n}
	case what == 2:
		return asked{what, value, 1, n, int(rest.Int64())}
	case what == 5 || what == 6:
		return asked{what, value, 1, n, n}
	}
	return asked{what, value, 5, 0, n}
}

// TestEachOfEach asks for every operation with every two numbers about the edges.
func TestEachOfEach(t *testing.T) {
	for _, n := range someNumbers {
		for _, value := range someNumbers {
			for what := -1; what <= 8; what++ {
				tell(t, n, told(what, n, value))
			}
		}
	}
}

// TestThereAndBack: what is put on is taken off again, and the other way round; what is not done leaves the number alone.
func TestThereAndBack(t *testing.T) {
	for _, n := range someNumbers {
		for _, value := range someNumbers {
			for there, back := range map[int]int{api.Put: api.Take, api.Take: api.Put} {
				m, a := tally.Do(n, api.Op{What: there, Value: value})
				if a.Code != api.Done {
					if m != n || a.Value != 0 {
						t.Errorf("of %d, What %d by %d: %d, %v", n, there, value, m, a)
					}
					continue
				}
				if again, b := tally.Do(m, api.Op{What: back, Value: value}); again != n || b != (api.Answer{Code: api.Done, Value: m}) || m < 0 || m > most {
					t.Errorf("of %d, What %d by %d: %d; and back: %d, %v", n, there, value, m, again, b)
				}
			}
		}
	}
}

// TestAnyNumber: beyond the bounds nothing is promised but that each call ends and is answered the same each time.
func TestAnyNumber(t *testing.T) {
	far := []int{math.MinInt, math.MinInt + 1, -most, -1, 0, most, most + 1, math.MaxInt - 1, math.MaxInt}
	for _, n := range far {
		for _, value := range far {
			for what := range 8 {
				o := api.Op{What: what, Key: value, Value: value}
				m, a := tally.Do(n, o)
				if again, b := tally.Do(n, o); again != m || b != a {
					t.Errorf("Do(%d, %v): %d, %v, and once more %d, %v", n, o, m, a, again, b)
				}
			}
		}
	}
}
