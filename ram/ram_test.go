package ram_test

import (
	"errors"
	"math"
	"testing"

	"gristmill/api"
	"gristmill/ram"
)

// Numbers of which there are no such words: just beyond, and far off.
var noWords = []int{math.MinInt, -api.MaxRam, -2, -1, api.MaxRam, api.MaxRam + 1, 2 * api.MaxRam, math.MaxInt}

// Words whose lowest and highest bits differ, so that none passes for another one that is cut short.
var someWords = []uint64{0, 1, 2, 1 << 31, 1 << 32, 1 << 63, 1<<63 | 1, math.MaxUint64}

// content is all that a Ram has.
type content [api.MaxRam]uint64

func look(t *testing.T, r *ram.Ram) (all content) {
	t.Helper()
	for addr := range all {
		w, err := r.Load(addr)
		must(t, err)
		all[addr] = w
	}
	return all
}

// must ends the test if what ought to be done told an error.
func must(t *testing.T, err error) {
	t.Helper()
	if err != nil {
		t.Fatalf("told %v, want no error", err)
	}
}

// refused asks for ErrRange without a place.
func refused(t *testing.T, what string, addr int, err error) {
	t.Helper()
	var at *api.At
	if api.Tell(err) != api.ErrRange || errors.As(err, &at) {
		t.Errorf("%s of word %d: %v: want ErrRange without a place", what, addr, err)
	}
}

// holds asks that a Ram has just these words.
func holds(t *testing.T, r *ram.Ram, want content, behind string, args ...any) {
	t.Helper()
	if got := look(t, r); got != want {
		t.Errorf("behind %s%v: %v: want %v", behind, args, got, want)
	}
}

// full is a Ram no two of whose words are alike, none of them 0, and what it has.
func full(t *testing.T) (*ram.Ram, content) {
	t.Helper()
	r, want := &ram.Ram{}, content{}
	for addr := range want {
		want[addr] = 1<<63 + uint64(addr) + 100
		must(t, r.Save(addr, want[addr]))
	}
	return r, want
}

func TestZeroValueIsNoughts(t *testing.T) {
	var r ram.Ram
	holds(t, &r, content{}, "nothing")
	if ok, err := r.Swap(api.MaxRam-1, 0, 5); !ok || err != nil {
		t.Errorf("Swap of a nought: %v, %v", ok, err)
	}
	holds(t, &r, content{api.MaxRam - 1: 5}, "Swap")
	holds(t, &ram.Ram{}, content{}, "another one's Swap")
}

func TestSavedIsLoaded(t *testing.T) {
	for addr := range api.MaxRam {
		r, want := full(t)
		for _, w := range someWords {
			must(t, r.Save(addr, w))
			want[addr] = w
			holds(t, r, want, "Save", addr, w)
		}
	}
}

func TestLoadChangesNothing(t *testing.T) {
	r, want := full(t)
	for addr := range api.MaxRam {
		for range 2 {
			if w, err := r.Load(addr); w != want[addr] || err != nil {
				t.Errorf("Load(%d): %d, %v: want %d", addr, w, err, want[addr])
			}
		}
	}
	holds(t, r, want, "Loads")
}

// TestSwap goes through all that a word may be, be told to be, and may become; a word that is swapped for itself is among them.
func TestSwap(t *testing.T) {
	for addr := range api.MaxRam {
		for _, is := range someWords {
			for _, old := range someWords {
				for _, w := range someWords {
					r, want := full(t)
					must(t, r.Save(addr, is))
					want[addr] = is
					if is == old {
						want[addr] = w
					}
					if ok, err := r.Swap(addr, old, w); ok != (is == old) || err != nil {
						t.Errorf("Swap(%d, %d, %d) of %d: %v, %v", addr, old, w, is, ok, err)
					}
					holds(t, r, want, "Swap", addr, old, w)
				}
			}
		}
	}
}

func TestSwapOfAWordForItself(t *testing.T) {
	r, want := full(t)
	for addr, w := range want {
		for range 2 {
			if ok, err := r.Swap(addr, w, w); !ok || err != nil {
				t.Errorf("Swap(%d, %d, %d): %v, %v: want true", addr, w, w, ok, err)
			}
		}
	}
	holds(t, r, want, "Swaps of words for themselves")
}

// TestOneOfTwoSwaps is what a lock is made of: who comes second finds another word.
func TestOneOfTwoSwaps(t *testing.T) {
	for addr := range api.MaxRam {
		var r ram.Ram
		first, err := r.Swap(addr, 0, 1)
		must(t, err)
		second, err := r.Swap(addr, 0, 2)
		must(t, err)
		if w, _ := r.Load(addr); !first || second || w != 1 {
			t.Errorf("word %d: swapped %v, then %v, is %d: want true, false, 1", addr, first, second, w)
		}
	}
}

func TestClear(t *testing.T) {
	var r ram.Ram
	r.Clear()
	holds(t, &r, content{}, "Clear of noughts")
	for addr := range api.MaxRam {
		for _, w := range someWords {
			must(t, r.Save(addr, w))
			r.Clear()
			holds(t, &r, content{}, "Save, Clear", addr, w)
		}
	}
	all, _ := full(t)
	all.Clear()
	holds(t, all, content{}, "Clear of all words")
	all.Clear()
	must(t, all.Save(3, 7))
	holds(t, all, content{3: 7}, "Clear, Clear, Save")
}

func TestTwoLieApart(t *testing.T) {
	a, want := full(t)
	b, _ := full(t)
	b.Clear()
	must(t, b.Save(0, 1))
	holds(t, a, want, "another one's Clear and Save")
	a.Clear()
	holds(t, b, content{1}, "another one's Clear")
}

func TestWrongInputs(t *testing.T) {
	empty := &ram.Ram{}
	some, want := full(t)
	for _, addr := range noWords {
		for _, r := range []*ram.Ram{empty, some} {
			w, err := r.Load(addr)
			refused(t, "Load", addr, err)
			if w != 0 {
				t.Errorf("Load(%d): %d beside an error", addr, w)
			}
			refused(t, "Save", addr, r.Save(addr, 1))
			for _, old := range []uint64{0, 1, want[0], want[api.MaxRam-1]} {
				ok, err := r.Swap(addr, old, 1)
				refused(t, "Swap", addr, err)
				if ok {
					t.Errorf("Swap(%d, %d, 1): true beside an error", addr, old)
				}
			}
		}
		holds(t, empty, content{}, "what was refused", addr)
		holds(t, some, want, "what was refused", addr)
	}
}

// TestLongStories holds a Ram, behind each call, against a map that has only the words that aren't 0.
func TestLongStories(t *testing.T) {
	draw := uint64(1)
	next := func(n int) int {
		draw = draw*6364136223846793005 + 1442695040888963407
		return int((draw >> 33) % uint64(n))
	}
	for range 50 {
		var r ram.Ram
		words := map[int]uint64{}
		for range 200 {
			addr, old, w := next(api.MaxRam), uint64(next(3)), uint64(next(3))
			switch next(8) {
			case 0, 1, 2:
				must(t, r.Save(addr, w))
				words[addr] = w
			case 3, 4, 5, 6:
				ok, err := r.Swap(addr, old, w)
				must(t, err)
				if ok != (words[addr] == old) {
					t.Fatalf("Swap(%d, %d, %d) of %d: %v", addr, old, w, words[addr], ok)
				}
				if ok {
					words[addr] = w
				}
			case 7:
				r.Clear()
				clear(words)
			}
			var want content
			for addr, w := range words {
				want[addr] = w
			}
			holds(t, &r, want, "a long story")
		}
	}
}
