package word_test

import (
	"errors"
	"math"
	"testing"

	"gristmill/api"
	"gristmill/word"
)

const all = math.MaxUint64

// samples are words with few, many and all bits, and with bits at both ends.
var samples = []uint64{0, 1, 2, 0xabcd, 1 << 63, 1<<63 | 1, 0x5555555555555555, 0xaaaaaaaaaaaaaaaa, 0x0123456789abcdef, 0xfedcba9876543210, all - 1, all >> 1, all}

// outside are places of which a word has no bit.
var outside = []int{math.MinInt, math.MinInt + 1, -64, -2, -1, 64, 65, 128, math.MaxInt - 1, math.MaxInt}

// digits is a word bit by bit, the least one first: what the answers are held against, worked out by another way.
func digits(w uint64) (l [64]uint64) {
	for i := range l {
		l[i] = w % 2
		w /= 2
	}
	return l
}

// number is what bits, the least one first, are.
func number(l []uint64) (x uint64) {
	for i := len(l) - 1; i >= 0; i-- {
		x = x*2 + l[i]
	}
	return x
}

// fails asks for the zero value and for an error that is that Errno, without a place.
func fails(t *testing.T, what string, got uint64, err error, want api.Errno, args ...any) {
	t.Helper()
	var at *api.At
	if got != 0 || api.Tell(err) != want || errors.As(err, &at) {
		t.Errorf("%s%v: %d, %v: want 0 and %v, without a place", what, args, got, err, want)
	}
}

func TestGetOrdinary(t *testing.T) {
	for _, c := range []struct {
		w     uint64
		at, n int
		want  uint64
	}{
		{0xabcd, 4, 8, 0xbc},
		{0xabcd, 0, 4, 0xd},
		{0xabcd, 12, 4, 0xa},
		{0xabcd, 16, 48, 0},
		{0xabcd, 0, 1, 1},
		{0xabcd, 1, 1, 0},
		{0xfedcba9876543210, 0, 64, 0xfedcba9876543210},
		{0xfedcba9876543210, 32, 32, 0xfedcba98},
		{1 << 63, 63, 1, 1},
		{1 << 63, 62, 2, 2},
		{all, 0, 64, all},
		{all, 1, 63, all >> 1},
	} {
		if got, err := word.Get(c.w, c.at, c.n); got != c.want || err != nil {
			t.Errorf("Get(%x, %d, %d): %x, %v: want %x", c.w, c.at, c.n, got, err, c.want)
		}
	}
}

func TestGetEveryPlace(t *testing.T) {
	for _, w := range samples {
		l := digits(w)
		for at := range 64 {
			for n := 1; at+n <= 64; n++ {
				want := number(l[at : at+n])
				if got, err := word.Get(w, at, n); got != want || err != nil {
					t.Fatalf("Get(%x, %d, %d): %x, %v: want %x", w, at, n, got, err, want)
				}
			}
		}
	}
}

func TestSetOrdinary(t *testing.T) {
	for _, c := range []struct {
		w     uint64
		at, n int
		x     uint64
		want  uint64
	}{
		{0xabcd, 4, 8, 0x12, 0xa12d},
		{0xabcd, 4, 8, 0, 0xa00d},
		{0xabcd, 4, 8, 0xff, 0xaffd},
		{0, 63, 1, 1, 1 << 63},
		{all, 63, 1, 0, all >> 1},
		{0, 0, 64, all, all},
		{all, 0, 64, 0, 0},
		{all, 0, 64, 0xabcd, 0xabcd},
		{0, 32, 32, 0xffffffff, 0xffffffff00000000},
	} {
		if got, err := word.Set(c.w, c.at, c.n, c.x); got != c.want || err != nil {
			t.Errorf("Set(%x, %d, %d, %x): %x, %v: want %x", c.w, c.at, c.n, c.x, got, err, c.want)
		}
	}
}

// fitting are numbers of n bits: the least, the greatest, and some between.
func fitting(n int) []uint64 {
	most := uint64(all) >> (64 - n)
	return []uint64{0, 1, most / 3, most - most/3, most}
}

func TestSetEveryPlace(t *testing.T) {
	for _, w := range samples {
		for at := range 64 {
			for n := 1; at+n <= 64; n++ {
				for _, x := range fitting(n) {
					l, in := digits(w), digits(x)
					copy(l[at:at+n], in[:n])
					want := number(l[:])
					if got, err := word.Set(w, at, n, x); got != want || err != nil {
						t.Fatalf("Set(%x, %d, %d, %x): %x, %v: want %x", w, at, n, x, got, err, want)
					}
				}
			}
		}
	}
}

func TestSetTooGreat(t *testing.T) {
	for n := 1; n < 64; n++ {
		for at := 0; at+n <= 64; at++ {
			for _, x := range []uint64{1 << n, 1<<n + 1, 1 << 63, all} {
				got, err := word.Set(0xabcd, at, n, x)
				fails(t, "Set", got, err, api.ErrFull, at, n, x)
			}
		}
	}
}

// wrongRanges are bits that aren't there, or are none, or not all there; sums among them that wrap round.
func wrongRanges() (l [][2]int) {
	for _, at := range outside {
		for _, n := range []int{math.MinInt, -1, 0, 1, 2, 63, 64, 65, math.MaxInt} {
			l = append(l, [2]int{at, n})
		}
	}
	for at := range 64 {
		for _, n := range []int{math.MinInt, math.MinInt + at, -64, -1, 0, 65 - at, 66 - at, 65, 128, math.MaxInt - at, math.MaxInt} {
			l = append(l, [2]int{at, n})
		}
	}
	return append(l, [2]int{math.MaxInt, math.MaxInt}, [2]int{math.MinInt, math.MinInt}, [2]int{-1, 65}, [2]int{1, 64}, [2]int{63, 2})
}

func TestWrongRange(t *testing.T) {
	for _, r := range wrongRanges() {
		at, n := r[0], r[1]
		for _, w := range []uint64{0, 0xabcd, all} {
			got, err := word.Get(w, at, n)
			fails(t, "Get", got, err, api.ErrRange, w, at, n)
			got, err = word.Set(w, at, n, 0)
			fails(t, "Set", got, err, api.ErrRange, w, at, n, 0)
		}
	}
}

// ErrRange is told ahead of ErrFull.
func TestRangeAheadOfFull(t *testing.T) {
	for _, r := range wrongRanges() {
		for _, x := range []uint64{1, 2, 1 << 63, all} {
			got, err := word.Set(0xabcd, r[0], r[1], x)
			fails(t, "Set", got, err, api.ErrRange, r[0], r[1], x)
		}
	}
}

func TestBitAndFlip(t *testing.T) {
	for _, w := range samples {
		l := digits(w)
		for at := range 64 {
			if got := word.Bit(w, at); got != (l[at] == 1) {
				t.Errorf("Bit(%x, %d): %v", w, at, got)
			}
			turned := l
			turned[at] = 1 - l[at]
			if got, want := word.Flip(w, at), number(turned[:]); got != want {
				t.Errorf("Flip(%x, %d): %x: want %x", w, at, got, want)
			}
		}
	}
}

func TestBitAndFlipOutside(t *testing.T) {
	for _, w := range samples {
		for _, at := range outside {
			if word.Bit(w, at) {
				t.Errorf("Bit(%x, %d): true", w, at)
			}
			if got := word.Flip(w, at); got != w {
				t.Errorf("Flip(%x, %d): %x", w, at, got)
			}
		}
	}
}

func TestCountAndFirst(t *testing.T) {
	words := append([]uint64{}, samples...)
	for at := range 64 {
		words = append(words, 1<<at, all<<at, 1<<63|1<<at, all>>at)
	}
	for _, w := range words {
		count, first := 0, -1
		for at, b := range digits(w) {
			if b == 1 && first < 0 {
				first = at
			}
			count += int(b)
		}
		if got := word.Count(w); got != count {
			t.Errorf("Count(%x): %d: want %d", w, got, count)
		}
		if got := word.First(w); got != first {
			t.Errorf("First(%x): %d: want %d", w, got, first)
		}
	}
}

func TestNoOnes(t *testing.T) {
	if c, f := word.Count(0), word.First(0); c != 0 || f != -1 {
		t.Errorf("of 0: Count %d, First %d: want 0, -1", c, f)
	}
}
