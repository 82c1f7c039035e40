package worker_test

import (
	"iter"
	"math"
	"slices"
	"testing"

	"gristmill/api"
	"gristmill/batch"
	"gristmill/ram"
	"gristmill/record"
	"gristmill/store"
	"gristmill/worker"
)

// What a thread does, written out.
const (
	idle = iota
	sayOp
	say
	lock
	which
	copies
	asks
	fetch
	write
	wish
	firm
	index
	wish2
	firm2
	tell
	unlock
	reply
	look
	look2
	look3
	look4
	look5
)

// Words of answers and of operations, written out.
const (
	done   = 1 << 32
	empty  = 2 << 32
	putOp  = 1 << 48
	takeOp = 2 << 48
)

// top is what a version of a record is at most, 2^40.
const top = 1099511627776

// Operations of the tests.
var (
	take  = api.Op{What: api.Take}
	count = api.Op{What: api.Count}
)

func put(value int) api.Op { return api.Op{What: api.Put, Value: value} }

// deed is what was done: by which thread, an operation, answer (Code, Value).
func deed(thread int, o api.Op, code, value int) api.Deed {
	return api.Deed{Thread: thread, Op: o, Answer: api.Answer{Code: code, Value: value}}
}

// seen is all that there is to be seen of both memories.
type seen struct {
	ram             [16]uint64
	now, good       [72]uint64
	flushes, fences int
}

// place is where both memories are.
type place struct {
	m *ram.Ram
	s *store.Store
}

// newPlace has a record of version 0, for good, and noughts.
func newPlace(r record.Record) place {
	p := place{&ram.Ram{}, store.New()}
	p.record(0, r)
	p.evict()
	return p
}

// evict lets all lines be for good.
func (p place) evict() {
	for line := range 9 {
		_ = p.s.Evict(line)
	}
}

// record writes a record as that of a version.
func (p place) record(version int, r record.Record) {
	for i, w := range r {
		_ = p.s.Save([]int{8, 40}[version%2]+i, w)
	}
}

// seen takes all words out of both memories.
func (p place) seen() seen {
	var l seen
	for i := range l.ram {
		l.ram[i], _ = p.m.Load(i)
	}
	for i := range l.now {
		l.now[i], _ = p.s.Load(i)
		g, _ := p.s.Good(i / 8)
		l.good[i] = g[i%8]
	}
	l.flushes, l.fences = p.s.Costs()
	return l
}

// steps does steps, of which each is to change what is told and nothing else, and is to have a next one, as told; there is no answer yet.
func steps(t *testing.T, p place, w *worker.Worker, next []int, change func(i int, l *seen)) {
	t.Helper()
	for i, want := range next {
		l, did := p.seen(), w.Does
		change(i, &l)
		if w.Step(p.m, p.s) {
			t.Errorf("number %d, of %d: true", i, did)
		}
		if w.Does != want {
			t.Errorf("number %d, of %d: it does %d: want %d", i, did, w.Does, want)
		}
		if got := p.seen(); got != l {
			t.Errorf("number %d, of %d: there is\n%v: want\n%v", i, did, got, l)
		}
	}
}

// none changes nothing.
func none(int, *seen) {}

// answers does a step that has the answer, and changes nothing.
func answers(t *testing.T, p place, w *worker.Worker) {
	t.Helper()
	l, did := p.seen(), w.Does
	if !w.Step(p.m, p.s) || w.Does != idle {
		t.Errorf("a step of %d is false, or it does %d: want true and 0", did, w.Does)
	}
	if got := p.seen(); got != l {
		t.Errorf("a step of %d: there is\n%v: want\n%v", did, got, l)
	}
}

// tells asks what came of it (Code, Value, of which number the deed was), and for the deeds, twice, and writes into what comes out.
func tells(t *testing.T, w *worker.Worker, code, value, when int, deeds ...api.Deed) {
	t.Helper()
	for range 2 {
		if a, n := w.Out(); a != (api.Answer{Code: code, Value: value}) || n != when {
			t.Errorf("Out: %v, %d: want %d and %d, %d", a, n, code, value, when)
		}
		l := w.Deeds()
		if !slices.Equal(l, deeds) {
			t.Errorf("Deeds: %v: want %v", l, deeds)
		}
		for i := range l {
			l[i] = api.Deed{Thread: 9}
		}
	}
}

// many are so many of the same one.
func many(n, one int) []int { return slices.Repeat([]int{one}, n) }

// run does steps up to the answer: how many.
func run(t *testing.T, p place, w *worker.Worker) int {
	t.Helper()
	for n := range 1000 {
		if w.Step(p.m, p.s) {
			return n + 1
		}
	}
	t.Fatal("no answer in 1000 steps")
	return 0
}

// upTo does steps up to the one that is told.
func upTo(t *testing.T, p place, w *worker.Worker, does int) {
	t.Helper()
	for range 1000 {
		if w.Does == does {
			return
		}
		if w.Step(p.m, p.s) {
			t.Fatalf("it has an answer ahead of %d", does)
		}
	}
	t.Fatalf("it doesn't come to %d in 1000 steps", does)
}

func TestNumbers(t *testing.T) {
	got := []int{
		worker.Idle, worker.SayOp, worker.Say, worker.Lock, worker.Which, worker.Copy, worker.Asks, worker.Fetch, worker.Write, worker.Wish, worker.Firm,
		worker.Index, worker.Wish2, worker.Firm2, worker.Tell, worker.Unlock, worker.Reply, worker.Look, worker.Look2, worker.Look3, worker.Look4, worker.Look5,
	}
	for i, n := range got {
		if n != i {
			t.Errorf("number %d of the list is %d", i, n)
		}
	}
	if look5 != 21 || len(got) != 22 {
		t.Errorf("the last one is %d, of %d", look5, len(got))
	}
}

func TestCall(t *testing.T) {
	for thread := range 4 {
		for toggle := range 2 {
			for _, o := range []api.Op{put(5), take, {What: api.Peek, Key: 1000, Value: 4294967295}} {
				for again, does := range map[bool]int{false: sayOp, true: look} {
					w := &worker.Worker{Thread: thread}
					w.Call(o, toggle, again)
					if w.Thread != thread || w.Op != o || w.Toggle != toggle || w.Does != does {
						t.Errorf("Call(%v, %d, %v) of %d: %v", o, toggle, again, thread, w)
					}
					tells(t, w, 0, 0, 0)
				}
			}
		}
	}
}

func TestIdle(t *testing.T) {
	p := newPlace(record.Record{0: 1, 26: 15})
	w := &worker.Worker{Thread: 2}
	steps(t, p, w, many(5, idle), none)
	tells(t, w, 0, 0, 0)
}

// TestAlone has each of the 84 steps written out, with the record of version 0 for version 1's.
func TestAlone(t *testing.T) {
	p := newPlace(record.Record{0: 1, 1: 1, 2: 8})
	w := &worker.Worker{Thread: 2}
	w.Call(put(5), 1, false)
	steps(t, p, w, []int{say, lock, which, copies}, func(i int, l *seen) {
		switch i {
		case 0:
			l.ram[6] = putOp + 5
		case 1:
			l.ram[7] = 2
		case 2:
			l.ram[0] = 3
		}
	})
	steps(t, p, w, append(many(31, copies), asks), none)
	steps(t, p, w, []int{asks, asks, fetch, asks}, none)
	tells(t, w, 0, 0, 0)
	steps(t, p, w, []int{write}, none)
	tells(t, w, api.Done, 0, 1, deed(2, put(5), api.Done, 0))
	next := record.Record{0: 1, 1: 2, 2: 8, 3: 5, 20: done, 24: 1, 26: 4, 27: 1, 28: 1}
	steps(t, p, w, append(many(31, write), wish), func(i int, l *seen) { l.now[40+i] = next[i] })
	steps(t, p, w, append(many(3, wish), firm), func(i int, l *seen) { l.flushes = i + 1 })
	steps(t, p, w, []int{index, wish2, firm2, tell, unlock, reply}, func(i int, l *seen) {
		switch i {
		case 0:
			copy(l.good[40:], next[:])
			l.fences = 1
		case 1:
			l.now[0] = 1
		case 2:
			l.flushes = 5
		case 3:
			l.good[0] = 1
			l.fences = 2
		case 4:
			l.ram[1] = 1
		case 5:
			l.ram[0] = 0
		}
	})
	answers(t, p, w)
	tells(t, w, api.Done, 0, 1, deed(2, put(5), api.Done, 0))
	steps(t, p, w, many(3, idle), none)
	tells(t, w, api.Done, 0, 1, deed(2, put(5), api.Done, 0))
	w.Call(take, 0, false)
	tells(t, w, 0, 0, 0)
}

// TestBack: the record of version 1 is behind that of version 0, and that of version 2 is where version 0's was.
func TestBack(t *testing.T) {
	first, second := record.Record{0: 2, 5: 9}, record.Record{0: 2, 1: 1, 2: 7, 20: done, 24: 1, 26: 4, 27: 1, 28: 1}
	for _, v := range []uint64{1, 3, 255, 4294967295, top - 1} {
		p := newPlace(first)
		p.record(1, second)
		p.evict()
		_ = p.m.Save(1, v)
		w := &worker.Worker{Thread: 0}
		w.Call(take, 1, false)
		upTo(t, p, w, write)
		tells(t, w, api.Done, 7, 2, deed(0, take, api.Done, 7))
		next := record.Record{0: 2, 18: done + 7, 20: done, 22: 2, 24: 1, 26: 5, 27: 2, 28: 2}
		steps(t, p, w, append(many(31, write), wish), func(i int, l *seen) { l.now[8+i] = next[i] })
		steps(t, p, w, append(many(3, wish), firm), func(i int, l *seen) { l.flushes++ })
		steps(t, p, w, []int{index, wish2, firm2, tell, unlock, reply}, func(i int, l *seen) {
			switch i {
			case 0:
				copy(l.good[8:], next[:])
				l.fences = 1
			case 1:
				l.now[0] = v + 1
			case 2:
				l.flushes = 5
			case 3:
				l.good[0] = v + 1
				l.fences = 2
			case 4:
				l.ram[1] = v + 1
			case 5:
				l.ram[0] = 0
			}
		})
		answers(t, p, w)
	}
}

// TestCosts: one call behind the other, alone, is 84 steps, five wishes and two fences each, by whichever thread.
func TestCosts(t *testing.T) {
	for kind := uint64(1); kind <= 6; kind++ {
		p := newPlace(record.Record{0: kind})
		var w [4]worker.Worker
		for n := 1; n <= 20; n++ {
			thread := n * 3 % 4
			w[thread].Thread = thread
			w[thread].Call(count, 1-w[thread].Toggle, false)
			if got := run(t, p, &w[thread]); got != 84 {
				t.Errorf("kind %d, call %d: %d steps: want 84", kind, n, got)
			}
			tells(t, &w[thread], api.Done, 0, n, deed(thread, count, api.Done, 0))
			if l := p.seen(); l.flushes != 5*n || l.fences != 2*n || l.now[0] != uint64(n) || l.good != l.now {
				t.Errorf("kind %d, call %d: there is %v", kind, n, l)
			}
		}
	}
}

// TestHelped: who has the lock does what the others ask for too, in the order of threads; these have their answers by looking, in eight steps.
func TestHelped(t *testing.T) {
	p := newPlace(record.Record{0: 1})
	w := [4]worker.Worker{{Thread: 0}, {Thread: 1}, {Thread: 2}, {Thread: 3}}
	for thread := range w {
		w[thread].Call([]api.Op{take, put(5), take, put(6)}[thread], 1, false)
		upTo(t, p, &w[thread], lock)
	}
	steps(t, p, &w[3], []int{which}, func(_ int, l *seen) { l.ram[0] = 4 })
	steps(t, p, &w[0], []int{look, look2, look3, look4, look5, lock, look, look2}, none)
	if n := run(t, p, &w[3]); n != 84+3-3 {
		t.Errorf("with three others' asks there are %d steps behind three: want 84", n)
	}
	all := []api.Deed{deed(0, take, api.Empty, 0), deed(1, put(5), api.Done, 0), deed(2, take, api.Done, 5), deed(3, put(6), api.Done, 0)}
	tells(t, &w[3], api.Done, 0, 4, all...)
	l := p.seen()
	want := record.Record{0: 1, 1: 1, 2: 6, 18: empty, 19: done, 20: done + 5, 21: done, 22: 1, 23: 2, 24: 3, 25: 4, 26: 15, 27: 1, 28: 4}
	if record.Record(l.now[40:]) != want || l.flushes != 5 || l.fences != 2 {
		t.Errorf("there is %v: want the record %v", l, want)
	}
	steps(t, p, &w[0], []int{look3, look4, look5, lock}, none)
	steps(t, p, &w[2], []int{which}, func(_ int, l *seen) { l.ram[0] = 3 })
	for _, c := range []struct{ thread, code, value, when int }{{0, api.Empty, 0, 1}, {1, api.Done, 0, 2}} {
		steps(t, p, &w[c.thread], []int{look, look2, look3, look4, look5}, none)
		tells(t, &w[c.thread], 0, 0, 0)
		answers(t, p, &w[c.thread])
		tells(t, &w[c.thread], c.code, c.value, c.when)
	}
}

// TestDoneAhead: who has the lock and was helped before has that answer; a new version is written all the same, in which nothing was done.
func TestDoneAhead(t *testing.T) {
	p := newPlace(record.Record{0: 1})
	a, b := &worker.Worker{Thread: 0}, &worker.Worker{Thread: 1}
	a.Call(put(5), 1, false)
	upTo(t, p, a, lock)
	b.Call(take, 1, false)
	run(t, p, b)
	tells(t, b, api.Done, 5, 2, deed(0, put(5), api.Done, 0), deed(1, take, api.Done, 5))
	if n := run(t, p, a); n != 81 {
		t.Errorf("%d steps: want 81, as nothing is fetched", n)
	}
	tells(t, a, api.Done, 0, 1)
	want := record.Record{0: 1, 18: done, 19: done + 5, 22: 1, 23: 2, 26: 3, 27: 2, 28: 2}
	if l := p.seen(); record.Record(l.now[8:40]) != want || l.now[0] != 2 || l.ram[1] != 2 {
		t.Errorf("there is %v: want the record %v", l, want)
	}
}

// TestAsks: of each thread its toggle's word tells whether it asks, and its operation is read only then, a step later.
func TestAsks(t *testing.T) {
	for _, c := range []struct {
		bits  uint64
		words [4]uint64
		next  []int
		deeds []api.Deed
	}{
		{0, [4]uint64{}, []int{asks, asks, asks, write}, nil},
		{15, [4]uint64{}, []int{asks, asks, asks, write}, nil},
		{0, [4]uint64{1, 1, 1, 1}, []int{asks, asks, asks, write}, nil},
		{15, [4]uint64{2, 2, 2, 2}, []int{asks, asks, asks, write}, nil},
		{5, [4]uint64{2, 1, 2, 1}, []int{asks, asks, asks, write}, nil},
		{5, [4]uint64{2, 0, 1, 1}, []int{asks, asks, fetch, asks, write}, []api.Deed{deed(2, put(2), api.Done, 0)}},
		{10, [4]uint64{0, 2, 1, 1}, []int{asks, asks, asks, fetch, write}, []api.Deed{deed(3, put(3), api.Done, 0)}},
		{0, [4]uint64{2, 0, 0, 2}, []int{fetch, asks, asks, asks, fetch, write}, []api.Deed{deed(0, put(0), api.Done, 0), deed(3, put(3), api.Done, 0)}},
		{6, [4]uint64{2, 1, 1, 2}, []int{fetch, asks, fetch, asks, fetch, asks, fetch, write},
			[]api.Deed{deed(0, put(0), api.Done, 0), deed(1, put(1), api.Done, 0), deed(2, put(2), api.Done, 0), deed(3, put(3), api.Done, 0)}},
	} {
		p := newPlace(record.Record{0: 1, 26: c.bits})
		w := &worker.Worker{Thread: 1}
		w.Call(take, 1, false)
		upTo(t, p, w, asks)
		for thread, word := range c.words {
			_ = p.m.Save(2+2*thread, putOp+uint64(thread))
			_ = p.m.Save(3+2*thread, word)
		}
		steps(t, p, w, c.next, none)
		if got := w.Deeds(); !slices.Equal(got, c.deeds) {
			t.Errorf("bits %b, words %v: deeds %v: want %v", c.bits, c.words, got, c.deeds)
		}
	}
}

// TestReadOnce: what was read by a step is not read again by a later one.
func TestReadOnce(t *testing.T) {
	p := newPlace(record.Record{0: 1})
	w := &worker.Worker{Thread: 1}
	w.Call(take, 1, false)
	upTo(t, p, w, copies)
	_ = p.m.Save(1, 1) // behind Which: the version
	for range 5 {
		w.Step(p.m, p.s)
	}
	_ = p.s.Save(8+3, 99) // behind its Copy: a word
	upTo(t, p, w, fetch)
	_ = p.m.Save(5, 1)         // behind Asks: the toggle
	_ = p.m.Save(4, putOp+200) // ahead of Fetch: the operation
	w.Step(p.m, p.s)
	_ = p.m.Save(4, putOp+201) // behind it
	_ = p.m.Save(3, 2)         // of a thread that was asked
	_ = p.m.Save(2, putOp+202)
	upTo(t, p, w, tell)
	tells(t, w, api.Done, 0, 1, deed(1, put(200), api.Done, 0))
	want := record.Record{0: 1, 1: 1, 2: 200, 19: done, 23: 1, 26: 2, 27: 1, 28: 1}
	if l := p.seen(); record.Record(l.good[40:]) != want || l.good[0] != 1 {
		t.Errorf("there is %v: want the record %v", l, want)
	}
}

// TestLook: who calls again looks at first, in the record that counts, and asks only if it isn't done there.
func TestLook(t *testing.T) {
	here := record.Record{0: 1, 18: done + 7, 19: empty, 22: 3, 23: 2, 26: 2, 27: 4, 28: 3}
	there := record.Record{0: 1, 1: 1, 2: 9, 18: done + 6, 19: done, 21: done + 8, 22: 3, 23: 4, 25: 2, 26: 9, 27: 5, 28: 4}
	for _, c := range []struct {
		version                           uint64
		thread, toggle, code, value, when int
	}{
		{4, 0, 0, api.Done, 7, 3}, {4, 0, 1, 0, 0, 0}, {4, 1, 1, api.Empty, 0, 2}, {4, 1, 0, 0, 0, 0},
		{5, 0, 1, api.Done, 6, 3}, {5, 0, 0, 0, 0, 0}, {5, 1, 0, api.Done, 0, 4}, {5, 1, 1, 0, 0, 0}, {5, 3, 1, api.Done, 8, 2}, {5, 3, 0, 0, 0, 0},
		{top, 0, 0, api.Done, 7, 3}, {top - 1, 3, 1, api.Done, 8, 2},
	} {
		p := newPlace(here)
		p.record(1, there)
		_ = p.m.Save(1, c.version)
		w := &worker.Worker{Thread: c.thread}
		w.Call(count, c.toggle, true)
		steps(t, p, w, []int{look2, look3, look4, look5}, none)
		tells(t, w, 0, 0, 0)
		if c.when == 0 {
			steps(t, p, w, []int{sayOp}, none)
		} else {
			answers(t, p, w)
		}
		tells(t, w, c.code, c.value, c.when)
	}
}

// TestLookNothing: a thread to which nothing was answered yet, and whose toggle is as its bit, has nothing.
func TestLookNothing(t *testing.T) {
	for _, version := range []uint64{0, 1} {
		p := newPlace(record.Record{0: 6})
		p.record(1, record.Record{0: 6})
		_ = p.m.Save(1, version)
		w := &worker.Worker{Thread: 3}
		w.Call(take, 0, true)
		steps(t, p, w, []int{look2, look3, look4, look5}, none)
		answers(t, p, w)
		tells(t, w, 0, 0, 0)
		w.Call(take, 0, false)
		if n := run(t, p, w); n != 83 {
			t.Errorf("%d steps: want 83, as nothing is fetched", n)
		}
		tells(t, w, 0, 0, 0)
	}
}

// TestLookMoved: if another version counts at the end of its look than at the beginning, it is none: it asks, or tries the lock, if it has asked.
func TestLookMoved(t *testing.T) {
	answered := record.Record{0: 1, 20: done + 7, 24: 1, 26: 4, 27: 4, 28: 1}
	for at := look2; at <= look5; at++ {
		for _, version := range []uint64{1, 3, 4, 5, top} {
			for _, said := range []bool{false, true} {
				p := newPlace(answered)
				p.record(1, answered)
				_ = p.m.Save(0, 1)
				_ = p.m.Save(1, 2)
				w := &worker.Worker{Thread: 2}
				w.Call(take, 1, !said)
				upTo(t, p, w, at)
				_ = p.m.Save(1, version)
				upTo(t, p, w, look5)
				steps(t, p, w, []int{map[bool]int{false: sayOp, true: lock}[said]}, none)
				tells(t, w, 0, 0, 0)
				upTo(t, p, w, look5)
				answers(t, p, w)
				tells(t, w, api.Done, 7, 1)
			}
		}
	}
}

// TestLookSteps: each of its words is read by a step of its own.
func TestLookSteps(t *testing.T) {
	p := newPlace(record.Record{0: 1})
	w := &worker.Worker{Thread: 1}
	w.Call(take, 1, true)
	_ = p.m.Save(1, 6)
	w.Step(p.m, p.s)
	_ = p.s.Save(8+26, 2)
	w.Step(p.m, p.s)
	_ = p.s.Save(8+26, 0)
	_ = p.s.Save(8+19, done+4)
	w.Step(p.m, p.s)
	_ = p.s.Save(8+19, done+5)
	_ = p.s.Save(8+23, 8)
	w.Step(p.m, p.s)
	_ = p.s.Save(8+23, 9)
	answers(t, p, w)
	tells(t, w, api.Done, 4, 8)
}

// TestCallAgain: wherever a thread is, a call lets it begin anew: nothing of what it was at is left.
func TestCallAgain(t *testing.T) {
	for n := range 84 {
		p := newPlace(record.Record{0: 1})
		w := &worker.Worker{Thread: 1}
		w.Call(put(5), 1, false)
		for range n {
			w.Step(p.m, p.s)
		}
		p.s.Crash(0)
		p.m.Clear()
		index, _ := p.s.Load(0)
		_ = p.m.Save(1, index)
		w.Call(put(5), 1, true)
		if w.Does != look || w.Thread != 1 {
			t.Fatalf("behind %d steps it does %d, as %d: want Look, as 1", n, w.Does, w.Thread)
		}
		tells(t, w, 0, 0, 0)
		got := run(t, p, w)
		want, deeds := 89, []api.Deed{deed(1, put(5), api.Done, 0)}
		if n > 80 {
			want, deeds = 5, nil // the version counts for good since step 81
		}
		if got != want {
			t.Errorf("behind %d steps: %d steps: want %d", n, got, want)
		}
		tells(t, w, api.Done, 0, 1, deeds...)
		if l := p.seen(); l.good[0] != 1 || l.good[68] != 1 || l.now != l.good {
			t.Errorf("behind %d steps there is %v: want one deed", n, l)
		}
	}
}

// TestUnsaid: a call behind one that was said is not said yet.
func TestUnsaid(t *testing.T) {
	p := newPlace(record.Record{0: 1})
	w := &worker.Worker{Thread: 1}
	w.Call(put(5), 1, false)
	run(t, p, w)
	w.Call(put(6), 0, true)
	steps(t, p, w, []int{look2, look3, look4, look5, sayOp}, none)
	run(t, p, w)
	tells(t, w, api.Done, 0, 2, deed(1, put(6), api.Done, 0))
}

// TestWhich: where it reads which version there is, it has no asks any more.
func TestWhich(t *testing.T) {
	p := newPlace(record.Record{0: 1})
	w := &worker.Worker{Thread: 1}
	w.Call(put(5), 1, false)
	run(t, p, w)
	w.Does = which
	_ = p.m.Save(5, 1)
	if n := run(t, p, w); n != 81 {
		t.Errorf("%d steps: want 81, as one ask is fetched", n)
	}
	tells(t, w, api.Done, 0, 2, deed(1, put(5), api.Done, 0))
	w.Does = which
	run(t, p, w)
	tells(t, w, api.Done, 0, 2)
}

// TestCopied: a thread that was copied goes on by itself.
func TestCopied(t *testing.T) {
	p := newPlace(record.Record{0: 1})
	for thread := range 3 {
		_ = p.m.Save(2+2*thread, putOp+uint64(thread))
		_ = p.m.Save(3+2*thread, 2)
	}
	w := &worker.Worker{Thread: 3}
	w.Call(take, 1, false)
	for upTo(t, p, w, fetch); w.Does == asks || w.Does == fetch; w.Step(p.m, p.s) {
		other := *w
		kept := p.seen()
		_ = p.m.Save(6, putOp+77)
		_ = p.m.Save(8, putOp+78)
		upTo(t, p, &other, write)
		_ = p.m.Save(6, kept.ram[6])
		_ = p.m.Save(8, kept.ram[8])
	}
	tells(t, w, api.Done, 0, 4, deed(0, put(0), api.Done, 0), deed(1, put(1), api.Done, 0), deed(2, put(2), api.Done, 0), deed(3, take, api.Done, 0))
}

// TestWrongInputs: whatever it is given, a step ends, and none panics.
func TestWrongInputs(t *testing.T) {
	numbers := []int{math.MinInt, math.MinInt + 1, -1 << 32, -100, -3, -2, -1, 4, 5, 7, 8, 100, 1 << 32, 1<<62 + 1, math.MaxInt - 1, math.MaxInt}
	for _, thread := range append([]int{0, 3}, numbers...) {
		for _, toggle := range append([]int{0, 1}, numbers...) {
			for _, o := range []api.Op{take, {}, {What: 7}, {What: -1, Key: -1, Value: -1}, {What: 1, Value: math.MaxInt}} {
				p := newPlace(record.Record{0: 1})
				w := &worker.Worker{Thread: thread}
				for _, again := range []bool{false, true} {
					w.Call(o, toggle, again)
					for range 200 {
						w.Step(p.m, p.s)
						w.Out()
						w.Deeds()
					}
				}
			}
		}
	}
	for _, does := range append([]int{22, 23}, numbers[:7]...) {
		p := newPlace(record.Record{0: 1})
		w := &worker.Worker{Thread: 1, Does: does}
		steps(t, p, w, many(3, does), none)
		tells(t, w, 0, 0, 0)
	}
	w := &worker.Worker{Does: math.MaxInt}
	p := newPlace(record.Record{0: 1})
	steps(t, p, w, many(3, math.MaxInt), none)
	for does := range 22 {
		w := &worker.Worker{Does: does}
		if w.Step(nil, p.s) || w.Step(p.m, nil) || w.Step(nil, nil) || w.Does != does {
			t.Errorf("without a memory a step of %d is one", does)
		}
	}
}

// TestWrongMemories likewise: memories in which there is anything, and threads that are told to do anything next.
func TestWrongMemories(t *testing.T) {
	d := die(5)
	for range 300 {
		p := place{&ram.Ram{}, store.New()}
		anything := func() uint64 {
			return []uint64{0, 1, 2, 3, 7, done, putOp, takeOp + 9, 1 << 40, 1<<63 + 1, math.MaxUint64 - 1, math.MaxUint64}[d.n(12)]
		}
		w := &worker.Worker{Thread: d.n(4)}
		w.Call(put(d.n(9)), d.n(2), d.n(2) == 0)
		for range 300 {
			_ = p.m.Save(d.n(16), anything())
			_ = p.s.Save(d.n(72), anything())
			if d.n(5) == 0 {
				w.Does = d.n(22)
			}
			w.Step(p.m, p.s)
			w.Out()
			w.Deeds()
		}
	}
}

// die: numbers that look drawn, the same each time.
type die uint64

func (d *die) n(most int) int {
	*d = *d*6364136223846793005 + 1442695040888963407
	return int(uint64(*d>>33) % uint64(most))
}

// plainly is a thread that goes through the document's rows by loops, one life from a call on, and not step by step.
type plainly struct {
	place
	thread int
	does   int
	answer api.Answer
	when   int
	deeds  []api.Deed
	next   func() (int, bool)
	stop   func()
}

// stopped is what a life ends by whose thread is called anew.
type stopped struct{}

// call begins a life.
func (p *plainly) call(o uint64, toggle uint64, again bool) {
	if p.stop != nil {
		p.stop()
	}
	p.answer, p.when, p.deeds = api.Answer{}, 0, nil
	p.next, p.stop = iter.Pull(func(yield func(int) bool) {
		defer func() {
			if e := recover(); e != nil && e != any(stopped{}) {
				panic(e)
			}
		}()
		p.life(o, toggle, again, func(does int) {
			if !yield(does) {
				panic(stopped{})
			}
		})
	})
	p.does, _ = p.next()
}

// step goes on up to the next step: true, if there is none.
func (p *plainly) step() bool {
	does, ok := p.next()
	p.does = does
	return !ok
}

func (p *plainly) ram(i int) uint64  { w, _ := p.m.Load(i); return w }
func (p *plainly) word(i int) uint64 { w, _ := p.s.Load(i); return w }

// life is from a call up to the answer; ahead of each step it says which.
func (p *plainly) life(o, toggle uint64, again bool, does func(int)) {
	if again && p.looks(toggle, does) {
		return
	}
	does(sayOp)
	_ = p.m.Save(2+2*p.thread, o)
	does(say)
	_ = p.m.Save(3+2*p.thread, toggle+1)
	for does(lock); p.ram(0) != 0; does(lock) {
		if p.looks(toggle, does) {
			return
		}
	}
	_ = p.m.Save(0, uint64(p.thread+1))
	does(which)
	v := p.ram(1)
	var r record.Record
	for i := range r {
		does(copies)
		r[i] = p.word(8 + 32*int(v&1) + i)
	}
	r, p.deeds, _ = batch.Do(r, p.gathers(r, does))
	p.answer, p.when = api.Answer{Code: int(r[18+p.thread] >> 32), Value: int(r[18+p.thread] & 4294967295)}, int(r[22+p.thread])
	p.keeps(r, v+1, does)
	does(tell)
	_ = p.m.Save(1, v+1)
	does(unlock)
	_ = p.m.Save(0, 0)
	does(reply)
}

// gathers are the asks.
func (p *plainly) gathers(r record.Record, does func(int)) []batch.Ask {
	var l []batch.Ask
	for t := range 4 {
		does(asks)
		x := p.ram(3 + 2*t)
		if x == 0 || x-1 == r[26]>>t&1 {
			continue
		}
		does(fetch)
		o := p.ram(2 + 2*t)
		l = append(l, batch.Ask{Thread: t, Toggle: int(x - 1), Op: api.Op{What: int(o >> 48), Key: int(o >> 32 & 65535), Value: int(o & 4294967295)}})
	}
	return l
}

// keeps writes a record of a version, and lets it count.
func (p *plainly) keeps(r record.Record, v uint64, does func(int)) {
	for i, w := range r {
		does(write)
		_ = p.s.Save(8+32*int(v&1)+i, w)
	}
	for i := range 4 {
		does(wish)
		_ = p.s.Flush(p.thread, 1+4*int(v&1)+i)
	}
	does(firm)
	_ = p.s.Fence(p.thread)
	does(index)
	_ = p.s.Save(0, v)
	does(wish2)
	_ = p.s.Flush(p.thread, 0)
	does(firm2)
	_ = p.s.Fence(p.thread)
}

// looks says whether it was done.
func (p *plainly) looks(toggle uint64, does func(int)) bool {
	does(look)
	v := p.ram(1)
	at := 8 + 32*int(v&1)
	does(look2)
	bits := p.word(at + 26)
	does(look3)
	a := p.word(at + 18 + p.thread)
	does(look4)
	when := p.word(at + 22 + p.thread)
	does(look5)
	if p.ram(1) != v || bits>>p.thread&1 != toggle {
		return false
	}
	p.answer, p.when = api.Answer{Code: int(a >> 32), Value: int(a & 4294967295)}, int(when)
	return true
}

// same asks that a thread and its plain one are alike.
func same(t *testing.T, w *worker.Worker, p *plainly) {
	t.Helper()
	if a, n := w.Out(); w.Does != p.does || a != p.answer || n != p.when || !slices.Equal(w.Deeds(), p.deeds) {
		t.Fatalf("thread %d does %d, Out %v, %d, Deeds %v: want %d, %v, %d, %v", w.Thread, w.Does, a, n, w.Deeds(), p.does, p.answer, p.when, p.deeds)
	}
}

// drawn is an operation, and its word.
func (d *die) drawn() (api.Op, uint64) {
	o := api.Op{What: 1 + d.n(6), Key: d.n(12), Value: []int{0, 1, 2, 3, 1 << 31, 4294967295}[d.n(6)]}
	return o, uint64(o.What)<<48 + uint64(o.Key)<<32 + uint64(o.Value)
}

// TestTogether: four threads, in a drawn order, with crashes, held against plain ones with memories of their own.
func TestTogether(t *testing.T) {
	d := die(7)
	crashes, versions, ends, lengths := 0, uint64(0), map[int]int{}, map[int]int{}
	for round := range 60 {
		first, _ := record.New(1 + round%6)
		here, there := newPlace(first), newPlace(first)
		var w [4]worker.Worker
		var p [4]plainly
		var words [4]uint64
		for i := range w {
			w[i].Thread = i
			p[i] = plainly{place: there, thread: i}
		}
		for range 150 {
			if d.n(25) == 0 {
				crashes++
				lands := uint64(d.n(512))
				for _, l := range []place{here, there} {
					l.s.Crash(lands)
					l.m.Clear()
					v, _ := l.s.Load(0)
					_ = l.m.Save(1, v)
				}
				for i := range w {
					if w[i].Does != idle {
						w[i].Call(w[i].Op, w[i].Toggle, true)
						p[i].call(words[i], uint64(w[i].Toggle), true)
					}
				}
			}
			i := d.n(4)
			if w[i].Does == idle {
				o, word := d.drawn()
				words[i] = word
				w[i].Call(o, 1-w[i].Toggle, false)
				p[i].call(word, uint64(w[i].Toggle), false)
			}
			for range []int{1, 1, 2, 3, 30, 60, 90}[d.n(7)] {
				same(t, &w[i], &p[i])
				if w[i].Does == idle {
					break
				}
				did := w[i].Does
				got, want := w[i].Step(here.m, here.s), p[i].step()
				if got != want {
					t.Fatalf("thread %d, a step of %d: %v: want %v", i, did, got, want)
				}
				if did == look5 || got {
					ends[did*100+w[i].Does]++
				}
				if w[i].Does == write && did != write {
					lengths[len(w[i].Deeds())]++
				}
			}
			same(t, &w[i], &p[i])
			if a, b := here.seen(), there.seen(); a != b {
				t.Fatalf("there is\n%v: want\n%v", a, b)
			}
		}
		v, _ := here.s.Load(0)
		versions += v
		for i := range p {
			if p[i].stop != nil {
				p[i].stop()
			}
		}
	}
	if crashes < 200 || versions < 500 || ends[reply*100] < 500 || ends[look5*100] < 200 || ends[look5*100+lock] < 200 || ends[look5*100+sayOp] < 100 {
		t.Errorf("%d crashes, %d versions, ends %v: too few to tell", crashes, versions, ends)
	}
	for n := range 5 {
		if lengths[n] < 20 {
			t.Errorf("deeds at once %v: too few to tell", lengths)
		}
	}
}

// TestMovedMemories: one thread, while others let words of the memory that goes be other ones, as they may be.
func TestMovedMemories(t *testing.T) {
	d := die(9)
	ends := map[int]int{}
	for round := range 400 {
		var r [2]record.Record
		for i := range r {
			r[i], _ = record.New(1 + round%6)
			for range d.n(9) {
				o, _ := d.drawn()
				r[i], _ = r[i].Done(d.n(4), o)
			}
			r[i][27] = []uint64{0, 1, 2, 4294967295, top - 9}[d.n(5)]
		}
		here, there := newPlace(r[0]), newPlace(r[0])
		here.record(1, r[1])
		there.record(1, r[1])
		save := func(i int, w uint64) {
			_ = here.m.Save(i, w)
			_ = there.m.Save(i, w)
		}
		others := func() {
			save(0, uint64(max(0, d.n(8)-3)))
			save(1, []uint64{0, 1, 2, 3, 4294967295, top - 1, top}[d.n(7)])
			thread := d.n(4)
			_, word := d.drawn()
			save(2+2*thread, word)
			save(3+2*thread, uint64(d.n(3)))
		}
		others()
		w, p := &worker.Worker{Thread: d.n(4)}, &plainly{}
		*p = plainly{place: there, thread: w.Thread}
		for range 3 {
			o, word := d.drawn()
			toggle, again := d.n(2), d.n(2) == 0
			w.Call(o, toggle, again)
			p.call(word, uint64(toggle), again)
			same(t, w, p)
			for w.Does != idle {
				did := w.Does
				if d.n(3) == 0 {
					others()
				}
				if got, want := w.Step(here.m, here.s), p.step(); got != want {
					t.Fatalf("a step of %d: %v: want %v", did, got, want)
				}
				ends[did*100+w.Does]++
				same(t, w, p)
				if a, b := here.seen(), there.seen(); a != b {
					t.Fatalf("a step of %d: there is\n%v: want\n%v", did, a, b)
				}
			}
		}
		p.stop()
	}
	for _, least := range []struct{ did, does int }{{reply, idle}, {look5, idle}, {look5, lock}, {look5, sayOp}, {asks, asks}, {asks, fetch}, {asks, write}, {fetch, asks}, {fetch, write}, {lock, look}, {lock, which}} {
		if n := ends[least.did*100+least.does]; n < 100 {
			t.Errorf("from %d to %d there were %d steps: too few to tell", least.did, least.does, n)
		}
	}
}
