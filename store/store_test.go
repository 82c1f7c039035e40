package store_test

import (
	"errors"
	"math"
	"testing"

	"gristmill/api"
	"gristmill/store"
)

const words = api.MaxLines * api.LineWords

// Numbers of which there are no such words, lines and threads: just beyond, and far off.
var (
	noWords   = []int{math.MinInt, -words, -2, -1, words, words + 1, math.MaxInt}
	noLines   = []int{math.MinInt, -api.MaxLines, -2, -1, api.MaxLines, api.MaxLines + 1, 64, math.MaxInt}
	noThreads = []int{math.MinInt, -api.Threads, -2, -1, api.Threads, api.Threads + 1, api.MaxLines - 1, math.MaxInt}
)

// must ends the test if what ought to be done told an error.
func must(t *testing.T, err error) {
	t.Helper()
	if err != nil {
		t.Fatalf("told %v, want no error", err)
	}
}

// refused asks for ErrRange without a place.
func refused(t *testing.T, what string, err error, args ...any) {
	t.Helper()
	var at *api.At
	if api.Tell(err) != api.ErrRange || errors.As(err, &at) {
		t.Errorf("%s%v: %v: want ErrRange without a place", what, args, err)
	}
}

// fill saves into each word its number, times by, plus 1: no two words, and none of two fills, are alike.
func fill(t *testing.T, s *store.Store, by uint64) {
	t.Helper()
	for addr := range words {
		must(t, s.Save(addr, uint64(addr)*by+1))
	}
}

// filled is a line as fill leaves it.
func filled(line int, by uint64) (l api.Line) {
	for i := range l {
		l[i] = uint64(line*api.LineWords+i)*by + 1
	}
	return l
}

// loaded is a line as it is now, word by word.
func loaded(t *testing.T, s *store.Store, line int) (l api.Line) {
	t.Helper()
	for i := range l {
		w, err := s.Load(line*api.LineWords + i)
		must(t, err)
		l[i] = w
	}
	return l
}

// good is a line for good.
func good(t *testing.T, s *store.Store, line int) api.Line {
	t.Helper()
	l, err := s.Good(line)
	must(t, err)
	return l
}

// seen is all that can be asked of a store; what threads want is found out on copies, by their fences.
type seen struct {
	now, good       [api.MaxLines]api.Line
	dirty           [api.MaxLines]bool
	wanted          [api.Threads][api.MaxLines]bool
	flushes, fences int
}

func look(t *testing.T, s *store.Store) (v seen) {
	t.Helper()
	for line := range api.MaxLines {
		v.now[line], v.good[line], v.dirty[line] = loaded(t, s, line), good(t, s, line), s.Dirty(line)
	}
	for thread := range api.Threads {
		c := s.Copy()
		for line := range api.MaxLines {
			must(t, c.Save(line*api.LineWords, v.good[line][0]+1))
		}
		must(t, c.Fence(thread))
		for line := range api.MaxLines {
			v.wanted[thread][line] = !c.Dirty(line)
		}
	}
	v.flushes, v.fences = s.Costs()
	return v
}

func TestNewIsNoughts(t *testing.T) {
	if got := look(t, store.New()); got != (seen{}) {
		t.Errorf("New: %v: want noughts, clean, wanted by nobody", got)
	}
	a, b := store.New(), store.New()
	must(t, a.Save(0, 1))
	if got := look(t, b); got != (seen{}) {
		t.Errorf("New: two of them lie together: %v", got)
	}
}

func TestSavedIsLoaded(t *testing.T) {
	s := store.New()
	for addr := range words {
		for _, w := range []uint64{0, 1, math.MaxUint64, uint64(addr) + 7} {
			must(t, s.Save(addr, w))
			if got, err := s.Load(addr); got != w || err != nil {
				t.Fatalf("Load(%d): %d, %v: want %d", addr, got, err, w)
			}
		}
	}
	for addr := range words {
		if got, _ := s.Load(addr); got != uint64(addr)+7 {
			t.Errorf("Load(%d): %d: another word's Save is seen in it", addr, got)
		}
	}
}

func TestWordsAreNumberedLineByLine(t *testing.T) {
	s := store.New()
	fill(t, s, 3)
	for line := range api.MaxLines {
		must(t, s.Evict(line))
		if got := good(t, s, line); got != filled(line, 3) {
			t.Errorf("Good(%d): %v: want %v", line, got, filled(line, 3))
		}
	}
}

func TestSavedIsNotForGood(t *testing.T) {
	s := store.New()
	fill(t, s, 3)
	for line := range api.MaxLines {
		if got := good(t, s, line); got != (api.Line{}) || !s.Dirty(line) {
			t.Errorf("line %d, saved alone: for good %v, dirty %v", line, got, s.Dirty(line))
		}
	}
}

func TestWantedAndFencedIsForGood(t *testing.T) {
	for thread := range api.Threads {
		for line := range api.MaxLines {
			s := store.New()
			fill(t, s, 3)
			must(t, s.Flush(thread, line))
			if got := good(t, s, line); got != (api.Line{}) || !s.Dirty(line) {
				t.Errorf("Flush(%d, %d): for good already: %v", thread, line, got)
			}
			must(t, s.Fence(thread))
			for l := range api.MaxLines {
				want := api.Line{}
				if l == line {
					want = filled(line, 3)
				}
				if got := good(t, s, l); got != want || s.Dirty(l) != (l != line) || loaded(t, s, l) != filled(l, 3) {
					t.Errorf("Flush(%d, %d), Fence: line %d for good: %v: want %v", thread, line, l, got, want)
				}
			}
		}
	}
}

func TestFenceKeepsAllThatIsWanted(t *testing.T) {
	s := store.New()
	fill(t, s, 3)
	for _, line := range []int{8, 0, 5, 5} {
		must(t, s.Flush(2, line))
	}
	must(t, s.Fence(2))
	for line := range api.MaxLines {
		if want := line != 0 && line != 5 && line != 8; s.Dirty(line) != want {
			t.Errorf("Dirty(%d): %v: want %v", line, !want, want)
		}
	}
}

func TestFenceOfAnotherThread(t *testing.T) {
	for wisher := range api.Threads {
		s := store.New()
		must(t, s.Save(9, 4))
		must(t, s.Flush(wisher, 1))
		for other := range api.Threads {
			if other != wisher {
				must(t, s.Fence(other))
			}
		}
		if !s.Dirty(1) {
			t.Errorf("what %d wants was kept by another one's Fence", wisher)
		}
		must(t, s.Fence(wisher))
		if s.Dirty(1) {
			t.Errorf("another one's Fence took away what %d wants", wisher)
		}
	}
}

func TestTwoWantOneLine(t *testing.T) {
	s := store.New()
	must(t, s.Flush(0, 1))
	must(t, s.Flush(3, 1))
	must(t, s.Fence(0))
	must(t, s.Save(9, 4))
	must(t, s.Fence(0))
	if !s.Dirty(1) {
		t.Error("thread 0 wants the line behind its Fence")
	}
	must(t, s.Fence(3))
	if s.Dirty(1) {
		t.Error("thread 3's wish went with thread 0's Fence")
	}
}

func TestFenceKeepsWhatIsNow(t *testing.T) {
	s := store.New()
	must(t, s.Save(9, 4))
	must(t, s.Flush(1, 1))
	must(t, s.Save(9, 5))
	must(t, s.Save(10, 6))
	must(t, s.Fence(1))
	if got := good(t, s, 1); got != (api.Line{0, 5, 6}) {
		t.Errorf("a save between a wish and its fence: for good %v", got)
	}
}

func TestFenceForgetsWishes(t *testing.T) {
	s := store.New()
	must(t, s.Flush(1, 1))
	must(t, s.Fence(1))
	must(t, s.Save(9, 4))
	must(t, s.Fence(1))
	if got := good(t, s, 1); got != (api.Line{}) || !s.Dirty(1) {
		t.Errorf("a wish outlived its fence: for good %v", got)
	}
}

func TestFenceOfWhoWantsNothing(t *testing.T) {
	s := store.New()
	fill(t, s, 3)
	want := look(t, s)
	for thread := range api.Threads {
		must(t, s.Fence(thread))
	}
	want.fences = api.Threads
	if got := look(t, s); got != want {
		t.Errorf("a fence of who wants nothing: %v: want %v", got, want)
	}
}

func TestEvict(t *testing.T) {
	for line := range api.MaxLines {
		s := store.New()
		fill(t, s, 3)
		must(t, s.Flush(1, line))
		want := look(t, s)
		must(t, s.Evict(line))
		want.good[line], want.dirty[line] = filled(line, 3), false
		if got := look(t, s); got != want {
			t.Errorf("Evict(%d): %v: want %v", line, got, want)
		}
		must(t, s.Save(line*api.LineWords, 99))
		must(t, s.Fence(1))
		if s.Dirty(line) {
			t.Errorf("Evict(%d) took a thread's wish away", line)
		}
	}
}

func TestDirty(t *testing.T) {
	s := store.New()
	for addr := range words {
		line := addr / api.LineWords
		must(t, s.Save(addr, 0))
		if s.Dirty(line) {
			t.Fatalf("Dirty(%d): a word was saved as it was", line)
		}
		must(t, s.Save(addr, 1<<63))
		for l := range api.MaxLines {
			if s.Dirty(l) != (l == line) {
				t.Fatalf("Dirty(%d) is %v, word %d is another one", l, s.Dirty(l), addr)
			}
		}
		must(t, s.Save(addr, 0))
		if s.Dirty(line) {
			t.Fatalf("Dirty(%d): a word was saved back", line)
		}
	}
	for _, line := range noLines {
		fill(t, s, 3)
		if s.Dirty(line) {
			t.Errorf("Dirty(%d): there is no such line", line)
		}
	}
}

func TestCrashLosesWhatIsNotForGood(t *testing.T) {
	s := store.New()
	fill(t, s, 3)
	must(t, s.Flush(0, 2))
	must(t, s.Fence(0))
	must(t, s.Evict(4))
	must(t, s.Flush(0, 6))
	fill(t, s, 5)
	s.Crash(0)
	want := seen{flushes: 2, fences: 1}
	want.now[2], want.now[4] = filled(2, 3), filled(4, 3)
	want.good = want.now
	if got := look(t, s); got != want {
		t.Errorf("Crash(0): %v: want %v", got, want)
	}
}

func TestCrashLands(t *testing.T) {
	for _, lands := range []uint64{0, 1, 2, 1 << 4, 1<<4 | 1, 1 << 8, 0x0ff, 0x100, 0x155, 0x1ff, 1 << 9, 1 << 63, 1<<63 | 1<<9 | 1, math.MaxUint64 - 0x1ff, math.MaxUint64} {
		s := store.New()
		fill(t, s, 3)
		for line := range api.MaxLines {
			must(t, s.Evict(line))
		}
		fill(t, s, 5)
		s.Crash(lands)
		want, rest := seen{}, lands
		for line := range api.MaxLines {
			want.now[line] = filled(line, 3)
			if rest%2 == 1 {
				want.now[line] = filled(line, 5)
			}
			rest /= 2
		}
		want.good = want.now
		if got := look(t, s); got != want {
			t.Errorf("Crash(%x): %v: want %v", lands, got, want)
		}
	}
}

func TestCrashForgetsWishes(t *testing.T) {
	for _, lands := range []uint64{0, 0x155, math.MaxUint64} {
		s := store.New()
		for thread := range api.Threads {
			for line := range api.MaxLines {
				must(t, s.Flush(thread, line))
			}
		}
		s.Crash(lands)
		if got := look(t, s); got.wanted != (seen{}).wanted {
			t.Errorf("Crash(%x): wanted still: %v", lands, got.wanted)
		}
	}
}

func TestCosts(t *testing.T) {
	s := store.New()
	asks := func(flushes, fences int) {
		t.Helper()
		if a, b := s.Costs(); a != flushes || b != fences {
			t.Errorf("Costs: %d, %d: want %d, %d", a, b, flushes, fences)
		}
	}
	asks(0, 0)
	must(t, s.Flush(0, 0))
	must(t, s.Flush(0, 0)) // wanted already: it counts all the same
	must(t, s.Flush(3, 8))
	asks(3, 0)
	must(t, s.Fence(0))
	must(t, s.Fence(0))
	asks(3, 2)
	for _, line := range noLines {
		refused(t, "Flush", s.Flush(0, line), 0, line)
	}
	for _, thread := range noThreads {
		refused(t, "Flush", s.Flush(thread, 0), thread, 0)
		refused(t, "Fence", s.Fence(thread), thread)
	}
	asks(3, 2)
	must(t, s.Save(1, 1))
	must(t, s.Evict(0))
	s.Dirty(0)
	loaded(t, s, 0)
	good(t, s, 0)
	asks(3, 2)
	s.Crash(math.MaxUint64)
	asks(3, 2)
	must(t, s.Flush(1, 1))
	must(t, s.Fence(1))
	asks(4, 3)
}

// busy has something of all: lines that are for good, lines that are not, wishes, costs.
func busy(t *testing.T) *store.Store {
	t.Helper()
	s := store.New()
	fill(t, s, 3)
	for line := 0; line < api.MaxLines; line += 2 {
		must(t, s.Flush(3, line))
	}
	must(t, s.Fence(3))
	must(t, s.Flush(0, 0))
	must(t, s.Flush(1, 4))
	must(t, s.Flush(3, 8))
	must(t, s.Save(0, 99))
	return s
}

// shake changes all that a store has.
func shake(t *testing.T, s *store.Store) {
	t.Helper()
	must(t, s.Flush(2, 3))
	fill(t, s, 7)
	must(t, s.Fence(0))
	must(t, s.Evict(5))
	s.Crash(1 << 7)
	must(t, s.Flush(1, 2))
	fill(t, s, 11)
}

func TestCopyLiesApart(t *testing.T) {
	s := busy(t)
	want := look(t, s)
	c := s.Copy()
	if got := look(t, c); got != want {
		t.Errorf("Copy: %v: want %v", got, want)
	}
	shake(t, c)
	if got := look(t, s); got != want {
		t.Errorf("what a copy did is seen in what it is of: %v: want %v", got, want)
	}
	c = s.Copy()
	shake(t, s)
	if got := look(t, c); got != want {
		t.Errorf("what was done behind a copy is seen in it: %v: want %v", got, want)
	}
	if look(t, s) == want {
		t.Error("shake changes nothing")
	}
}

// TestCopyWantsTheSame stands apart, since look itself leans on copies.
func TestCopyWantsTheSame(t *testing.T) {
	for thread := range api.Threads {
		s := store.New()
		must(t, s.Flush(thread, 1))
		c := s.Copy()
		must(t, s.Save(9, 4))
		must(t, s.Fence(thread))
		must(t, c.Save(9, 5))
		must(t, c.Fence(thread))
		if a, b := good(t, s, 1)[1], good(t, c, 1)[1]; a != 4 || b != 5 {
			t.Errorf("thread %d wants a line, and so it does in the copy: for good %d, %d: want 4, 5", thread, a, b)
		}
	}
}

func TestWrongInputs(t *testing.T) {
	s := busy(t)
	want := look(t, s)
	for _, addr := range noWords {
		w, err := s.Load(addr)
		refused(t, "Load", err, addr)
		if w != 0 {
			t.Errorf("Load(%d): %d beside an error", addr, w)
		}
		refused(t, "Save", s.Save(addr, 1), addr)
	}
	for _, line := range noLines {
		l, err := s.Good(line)
		refused(t, "Good", err, line)
		if l != (api.Line{}) {
			t.Errorf("Good(%d): %v beside an error", line, l)
		}
		refused(t, "Evict", s.Evict(line), line)
		for thread := range api.Threads {
			refused(t, "Flush", s.Flush(thread, line), thread, line)
		}
	}
	for _, thread := range noThreads {
		refused(t, "Fence", s.Fence(thread), thread)
		for line := range api.MaxLines {
			refused(t, "Flush", s.Flush(thread, line), thread, line)
		}
		for _, line := range noLines {
			refused(t, "Flush", s.Flush(thread, line), thread, line)
		}
	}
	if got := look(t, s); got != want {
		t.Errorf("what was refused changed something: %v: want %v", got, want)
	}
}

// deed is something that was done with a store.
type deed struct {
	what, at, line int
	w              uint64
}

const (
	save = iota
	flush
	fence
	evict
	crash
)

// told works out a word from all deeds so far, the last one last: what it is now, and for good.
func told(deeds []deed, addr int) (now, good uint64) {
	line := addr / api.LineWords
	wanted := map[int]bool{}
	for _, d := range deeds {
		switch {
		case d.what == save && d.at == addr:
			now = d.w
		case d.what == flush && d.line == line:
			wanted[d.at] = true
		case d.what == fence && wanted[d.at]:
			good = now
			delete(wanted, d.at)
		case d.what == evict && d.line == line:
			good = now
		case d.what == crash:
			if d.w>>line&1 == 1 {
				good = now
			}
			now = good
			clear(wanted)
		}
	}
	return now, good
}

func carryOut(t *testing.T, s *store.Store, d deed) {
	t.Helper()
	switch d.what {
	case save:
		must(t, s.Save(d.at, d.w))
	case flush:
		must(t, s.Flush(d.at, d.line))
	case fence:
		must(t, s.Fence(d.at))
	case evict:
		must(t, s.Evict(d.line))
	case crash:
		s.Crash(d.w)
	}
}

// TestLongStories holds each word, behind each deed, against what the deeds tell of it.
func TestLongStories(t *testing.T) {
	draw := uint64(1)
	next := func(n int) int {
		draw = draw*6364136223846793005 + 1442695040888963407
		return int((draw >> 33) % uint64(n))
	}
	for range 40 {
		s := store.New()
		var deeds []deed
		for range 120 {
			d := deed{what: []int{save, save, save, save, flush, flush, flush, fence, fence, evict, crash}[next(11)], line: next(api.MaxLines), w: uint64(next(1 << 12))}
			d.at = next(api.Threads)
			if d.what == save {
				d.at = next(words)
			}
			carryOut(t, s, d)
			deeds = append(deeds, d)
			for addr := range words {
				now, stays := told(deeds, addr)
				got, _ := s.Load(addr)
				if kept := good(t, s, addr/api.LineWords)[addr%api.LineWords]; got != now || kept != stays {
					t.Fatalf("word %d behind %v: %d, for good %d: want %d, %d", addr, deeds, got, kept, now, stays)
				}
			}
		}
	}
}
