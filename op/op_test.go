package op_test

import (
	"errors"
	"math"
	"math/big"
	"regexp"
	"strconv"
	"strings"
	"testing"

	"gristmill/api"
	"gristmill/op"
)

// Numbers about each bound, and far off; some that would pass if they were cut to 32, or to 16, bits.
var (
	someWhats  = []int{math.MinInt, -1, 0, 1, 2, 3, 4, 5, 6, 7, 8, 1<<16 + 1, 1<<32 + 1, math.MaxInt}
	someCodes  = []int{math.MinInt, -1, 0, 1, 2, 3, 4, 5, 6, 7, 1<<16 + 1, 1<<32 + 1, math.MaxInt}
	someKeys   = []int{math.MinInt, -1000, -1, 0, 1, 9, 10, 999, 1000, 1001, 1<<16 - 1, 1 << 16, 1<<16 + 1, 1 << 32, math.MaxInt}
	someValues = []int{math.MinInt, -1 << 32, -1, 0, 1, 9, 10, 1<<31 - 1, 1 << 31, 1<<32 - 2, 1<<32 - 1, 1 << 32, 1<<32 + 1, math.MaxInt}
)

// The names as the document has them, in the order of their numbers from 1 on.
var (
	whatNames = strings.Fields("put take front back peek count")
	codeNames = strings.Fields("done empty full absent wrong")
)

func opOf(what, key, value int) api.Op {
	return api.Op{What: what, Key: key, Value: value}
}

func answerOf(code, value int) api.Answer {
	return api.Answer{Code: code, Value: value}
}

// right is what the document says of operations, in plain numbers.
func right(o api.Op) bool {
	return 1 <= o.What && o.What <= 6 && 0 <= o.Key && o.Key <= 1000 && 0 <= o.Value && o.Value <= 4294967295
}

// fits is what it says of answers.
func fits(a api.Answer) bool {
	return 1 <= a.Code && a.Code <= 5 && 0 <= a.Value && a.Value <= 4294967295 && (a.Code == 1 || a.Value == 0)
}

// eachOp goes through operations, right and wrong.
func eachOp(f func(api.Op)) {
	for _, what := range someWhats {
		for _, key := range someKeys {
			for _, value := range someValues {
				f(opOf(what, key, value))
			}
		}
	}
}

// eachAnswer goes through answers, fitting and not.
func eachAnswer(f func(api.Answer)) {
	for _, code := range someCodes {
		for _, value := range someValues {
			f(answerOf(code, value))
		}
	}
}

// refused asks for a zero value, and for an error that is that Errno, without a place.
func refused[T comparable](t *testing.T, call string, in any, got T, err error, want api.Errno) {
	t.Helper()
	var zero T
	var at *api.At
	if got != zero || api.Tell(err) != want || errors.As(err, &at) {
		t.Errorf("%s(%v): %v, %v: want the zero value and %v, without a place", call, in, got, err, want)
	}
}

// is asks for an answer without an error.
func is[T comparable](t *testing.T, call string, in any, got T, err error, want T) {
	t.Helper()
	if got != want || err != nil {
		t.Errorf("%s(%v): %v, %v: want %v", call, in, got, err, want)
	}
}

func TestOrdinaryOperations(t *testing.T) {
	for _, c := range []struct {
		o    api.Op
		word uint64
		text string
	}{
		{opOf(api.Put, 3, 7), 0x0001_0003_0000_0007, "put:3=7"},
		{opOf(api.Put, 0, 5), 0x0001_0000_0000_0005, "put=5"},
		{opOf(api.Put, 0, 0), 0x0001_0000_0000_0000, "put"},
		{opOf(api.Take, 0, 0), 0x0002_0000_0000_0000, "take"},
		{opOf(api.Take, 12, 0), 0x0002_000c_0000_0000, "take:12"},
		{opOf(api.Front, 0, 1), 0x0003_0000_0000_0001, "front=1"},
		{opOf(api.Back, 0, 0), 0x0004_0000_0000_0000, "back"},
		{opOf(api.Peek, 1, 2), 0x0005_0001_0000_0002, "peek:1=2"},
		{opOf(api.Count, 0, 0), 0x0006_0000_0000_0000, "count"},
		{opOf(api.Count, 1000, 4294967295), 0x0006_03e8_ffff_ffff, "count:1000=4294967295"},
		{opOf(api.Put, 1000, 0), 0x0001_03e8_0000_0000, "put:1000"},
		{opOf(api.Put, 0, 4294967295), 0x0001_0000_ffff_ffff, "put=4294967295"},
		{opOf(api.Put, 10, 100), 0x0001_000a_0000_0064, "put:10=100"},
	} {
		if !op.Right(c.o) {
			t.Errorf("Right(%v): false", c.o)
		}
		w, err := op.Word(c.o)
		is(t, "Word", c.o, w, err, c.word)
		o, err := op.Of(c.word)
		is(t, "Of", c.word, o, err, c.o)
		s, err := op.Print(c.o)
		is(t, "Print", c.o, s, err, c.text)
		o, err = op.Parse(c.text)
		is(t, "Parse", c.text, o, err, c.o)
	}
}

func TestOrdinaryAnswers(t *testing.T) {
	for _, c := range []struct {
		a    api.Answer
		word uint64
		text string
	}{
		{answerOf(api.Done, 0), 0x1_0000_0000, "done"},
		{answerOf(api.Done, 7), 0x1_0000_0007, "done 7"},
		{answerOf(api.Done, 10), 0x1_0000_000a, "done 10"},
		{answerOf(api.Done, 4294967295), 0x1_ffff_ffff, "done 4294967295"},
		{answerOf(api.Empty, 0), 0x2_0000_0000, "empty"},
		{answerOf(api.Full, 0), 0x3_0000_0000, "full"},
		{answerOf(api.Absent, 0), 0x4_0000_0000, "absent"},
		{answerOf(api.Wrong, 0), 0x5_0000_0000, "wrong"},
	} {
		if !op.Fits(c.a) {
			t.Errorf("Fits(%v): false", c.a)
		}
		w, err := op.Answer(c.a)
		is(t, "Answer", c.a, w, err, c.word)
		a, err := op.Told(c.word)
		is(t, "Told", c.word, a, err, c.a)
		if s := op.Say(c.a); s != c.text {
			t.Errorf("Say(%v): %q: want %q", c.a, s, c.text)
		}
	}
}

// TestRightOrNot goes about every bound: what is Right is a word and a text and back, and what is not is neither.
func TestRightOrNot(t *testing.T) {
	eachOp(func(o api.Op) {
		if got := op.Right(o); got != right(o) {
			t.Errorf("Right(%v): %v", o, got)
		}
		w, err := op.Word(o)
		s, fault := op.Print(o)
		if !right(o) {
			refused(t, "Word", o, w, err, api.ErrArg)
			refused(t, "Print", o, s, fault, api.ErrArg)
			return
		}
		is(t, "Word", o, w, err, (uint64(o.What)*65536+uint64(o.Key))*4294967296+uint64(o.Value))
		is(t, "Print", o, s, fault, printed(o))
		back, err := op.Of(w)
		is(t, "Of", w, back, err, o)
		back, err = op.Parse(s)
		is(t, "Parse", s, back, err, o)
	})
}

// printed is a Right operation's text, put together by another way.
func printed(o api.Op) string {
	s := whatNames[o.What-1]
	if o.Key > 0 {
		s += ":" + big.NewInt(int64(o.Key)).String()
	}
	if o.Value > 0 {
		s += "=" + big.NewInt(int64(o.Value)).String()
	}
	return s
}

// TestFitsOrNot goes about every bound of answers, likewise.
func TestFitsOrNot(t *testing.T) {
	eachAnswer(func(a api.Answer) {
		if got := op.Fits(a); got != fits(a) {
			t.Errorf("Fits(%v): %v", a, got)
		}
		w, err := op.Answer(a)
		s := op.Say(a)
		if !fits(a) {
			refused(t, "Answer", a, w, err, api.ErrArg)
			if s != "?" {
				t.Errorf("Say(%v): %q: want ?", a, s)
			}
			return
		}
		is(t, "Answer", a, w, err, uint64(a.Code)*4294967296+uint64(a.Value))
		back, err := op.Told(w)
		is(t, "Told", w, back, err, a)
		want := codeNames[a.Code-1]
		if a.Value > 0 {
			want += " " + big.NewInt(int64(a.Value)).String()
		}
		if s != want {
			t.Errorf("Say(%v): %q: want %q", a, s, want)
		}
	})
}

func TestEveryKey(t *testing.T) {
	for what := api.Put; what <= api.Count; what++ {
		for key := 0; key <= api.MaxKey; key++ {
			o := opOf(what, key, key*7)
			w, err := op.Word(o)
			is(t, "Word", o, w, err, uint64(what)<<48+uint64(key)<<32+uint64(key*7))
			back, err := op.Of(w)
			is(t, "Of", w, back, err, o)
			s, err := op.Print(o)
			is(t, "Print", o, s, err, printed(o))
			back, err = op.Parse(s)
			is(t, "Parse", s, back, err, o)
		}
	}
}

// askWord holds what a word is, as an operation and as an answer, against its parts by division.
func askWord(t *testing.T, w uint64) {
	t.Helper()
	want := opOf(int(w/4294967296/65536), int(w/4294967296%65536), int(w%4294967296))
	o, err := op.Of(w)
	if right(want) {
		is(t, "Of", w, o, err, want)
	} else {
		refused(t, "Of", w, o, err, api.ErrForm)
	}
	told := answerOf(int(w/4294967296), int(w%4294967296))
	a, err := op.Told(w)
	if fits(told) {
		is(t, "Told", w, a, err, told)
	} else {
		refused(t, "Told", w, a, err, api.ErrForm)
	}
}

// TestAnyWord asks for words of each first half about its bounds, and of these with each bit, and each two bits, turned.
func TestAnyWord(t *testing.T) {
	for what := range uint64(9) {
		for _, key := range []uint64{0, 1, 999, 1000, 1001, 1<<16 - 1} {
			for _, value := range []uint64{0, 1, 1<<32 - 1} {
				w := what<<48 | key<<32 | value
				askWord(t, w)
				for i := range 64 {
					askWord(t, w^1<<i)
					for j := range i {
						askWord(t, w^1<<i^1<<j)
					}
				}
			}
		}
	}
	askWord(t, math.MaxUint64)
}

func TestWordsThatAreNone(t *testing.T) {
	for _, w := range []uint64{
		0, 1, 1 << 32, 1<<48 - 1, // nothing is done
		7 << 48, 1<<63 | 1<<48, 0x0101_0000_0000_0000, // beyond Count
		1<<48 | 1001<<32, 1<<48 | 0xffff<<32, 6<<48 | 1<<47, // beyond MaxKey
		math.MaxUint64,
	} {
		o, err := op.Of(w)
		refused(t, "Of", w, o, err, api.ErrForm)
	}
	for _, w := range []uint64{
		0, 1, 1<<32 - 1, // no code
		6 << 32, 1<<63 | 1<<32, 1<<48 | 1<<32, 1<<40 | 1<<32, // beyond Wrong
		2<<32 | 1, 3<<32 | 1<<31, 4<<32 | 5, 5<<32 | 1<<32 - 1, // a value beside a code other than Done
		math.MaxUint64,
	} {
		a, err := op.Told(w)
		refused(t, "Told", w, a, err, api.ErrForm)
	}
}

// TestNoTwoAreOne: no two operations are one word or one text, and no two answers are said alike.
func TestNoTwoAreOne(t *testing.T) {
	words, texts := map[uint64]api.Op{}, map[string]api.Op{}
	eachOp(func(o api.Op) {
		if !right(o) {
			return
		}
		w, _ := op.Word(o)
		s, _ := op.Print(o)
		if other, ok := words[w]; ok {
			t.Errorf("%v and %v are the word %x", o, other, w)
		}
		if other, ok := texts[s]; ok {
			t.Errorf("%v and %v are the text %q", o, other, s)
		}
		words[w], texts[s] = o, o
	})
	said := map[string]api.Answer{}
	eachAnswer(func(a api.Answer) {
		if !fits(a) {
			return
		}
		s := op.Say(a)
		if other, ok := said[s]; ok {
			t.Errorf("%v and %v are said as %q", a, other, s)
		}
		said[s] = a
	})
}

func TestTextsThatAreNone(t *testing.T) {
	for _, s := range []string{
		// Nothing, or too little.
		"", " ", ":", "=", ":=", ":1", "=1", ":1=1", "p", "pu", "pee", "coun", "1", "0",
		// No name, or more than one.
		"puts", "pu t", "Put", "PUT", "set", "get", "fron", "fronts", "putput", "put,take", "put take", "done", "empty", "wrong", "?",
		// A key or a value that is not there, or is 0.
		"put:", "put=", "put:=", "put:=5", "put:5=", "put:0", "put=0", "put:0=0", "put:0=5", "put:5=0", "put:00", "put=00",
		// A nought ahead.
		"put:01", "put:001", "put=01", "put:5=06", "put:05=6", "put:01000", "put=04294967295",
		// A sign.
		"put:+1", "put:-1", "put=+1", "put=-1", "put:-0", "put=-0", "put:+0", "put:5=+6", "put:+5=6", "take=-4294967295",
		// A blank, or another byte about the parts.
		" put", "put ", "put :5", "put: 5", "put:5 ", "put:5 =6", "put:5= 6", "put:5=6 ", "put\n", "put=5\n", "put\t:5", "put=5\x00", "\x00put", "put=\xff", "\xef\xbb\xbfput",
		// A part twice, or in the wrong order.
		"put:5:5", "put:5:6=7", "put=5=5", "put:5=6=7", "put::5", "put==5", "put:=:5=6", "put=6:5", "put=5:6=7", "5:put", "put5:6", "=5put", ":5=6put",
		// More behind.
		"put:5x", "put=5x", "put:5=6,", "put=5;", "put=1.0", "put=1e3", "put:1/", "put:1;", "put=1/", "put=1:",
		// Another way of writing numbers.
		"put=0x5", "put=0b1", "put=0o7", "put=1_000", "put:1_0", "put=x", "put=a", "put=５", "put=٥", "put=Inf", "put=NaN",
		// Another sign between.
		"put;5", "put-5", "put 5", "put,5", "put#5", "put5",
		// Too great, up to numbers that no int holds, and such as wrap round to one that would be Right.
		"put:1001", "put:9999", "put:10000", "put:65536", "put:65537", "put=4294967296", "put=4294967297", "put=42949672950", "put:4294967297",
		"put=9223372036854775807", "put=9223372036854775808", "put=18446744073709551615", "put=18446744073709551616", "put=18446744073709551617", "put:18446744073709551617",
		"put=340282366920938463463374607431768211457", "put:1001=1", "put:1=4294967296",
	} {
		o, err := op.Parse(s)
		refused(t, "Parse", strconv.Quote(s), o, err, api.ErrForm)
	}
}

func TestLongTexts(t *testing.T) {
	const many = 1 << 20
	for _, s := range []string{
		strings.Repeat("put", many), strings.Repeat(":", many), strings.Repeat("=", many), "put:" + strings.Repeat("0", many) + "1", "put=" + strings.Repeat("0", many) + "5", "put=1" + strings.Repeat("0", many), "put:" + strings.Repeat("9", many) + "=1", "put" + strings.Repeat(" ", many), strings.Repeat("put:5=6", many),
	} {
		o, err := op.Parse(s)
		refused(t, "Parse", s[:8]+"..", o, err, api.ErrForm)
	}
}

// form is how the text of an operation looks; how great its numbers may be it doesn't say.
var form = regexp.MustCompile(`\A(put|take|front|back|peek|count)(?::([1-9][0-9]*))?(?:=([1-9][0-9]*))?\z`)

// read is the operation that a text is, by another way.
func read(s string) (api.Op, bool) {
	m := form.FindStringSubmatch(s)
	if m == nil {
		return api.Op{}, false
	}
	o := api.Op{}
	for i, name := range whatNames {
		if name == m[1] {
			o.What = i + 1
		}
	}
	for i, to := range []*int{&o.Key, &o.Value} {
		if m[i+2] == "" {
			continue
		}
		n, _ := new(big.Int).SetString(m[i+2], 10)
		if !n.IsInt64() {
			return api.Op{}, false
		}
		*to = int(n.Int64())
	}
	return o, right(o)
}

// askText holds Parse against read.
func askText(t *testing.T, s string) {
	t.Helper()
	want, ok := read(s)
	o, err := op.Parse(s)
	if ok {
		is(t, "Parse", strconv.Quote(s), o, err, want)
	} else {
		refused(t, "Parse", strconv.Quote(s), o, err, api.ErrForm)
	}
}

// nearby goes through a text, cut short, and with a byte put in, left out, told twice or turned into another.
func nearby(s string, f func(string)) {
	f(s)
	for i := range len(s) + 1 {
		f(s[:i])
		f(s[i:])
		for b := range 256 {
			f(s[:i] + string([]byte{byte(b)}) + s[i:])
		}
		if i == len(s) {
			break
		}
		f(s[:i] + s[i+1:])
		f(s[:i+1] + s[i:])
		for b := range 256 {
			f(s[:i] + string([]byte{byte(b)}) + s[i+1:])
		}
	}
}

func TestTextsNearby(t *testing.T) {
	for _, name := range whatNames {
		for _, tail := range []string{"", ":7", "=7", ":7=8", ":10", "=10", ":100=100", ":1000", "=4294967295", ":1000=4294967295"} {
			nearby(name+tail, func(s string) { askText(t, s) })
		}
	}
}

// TestDrawnTexts puts texts together of what texts are made of, in any order.
func TestDrawnTexts(t *testing.T) {
	draw := uint64(1)
	next := func(n int) int {
		draw = draw*6364136223846793005 + 1442695040888963407
		return int((draw >> 33) % uint64(n))
	}
	pieces := append([]string{":", "=", ":", "=", "0", "1", "5", "9", "1000", "1001", "4294967295", "4294967296", "+", "-", " "}, whatNames...)
	found := 0
	for range 100_000 {
		s := whatNames[next(len(whatNames))]
		for range next(6) {
			s += pieces[next(len(pieces))]
		}
		askText(t, s)
		if _, ok := read(s); ok {
			found++
		}
	}
	if found < 1000 || found > 99_000 {
		t.Errorf("%d of the texts are operations: too few, or too many, to tell", found)
	}
}

// An answer hangs on what is given alone: the same is told again, whatever was asked between.
func TestAgain(t *testing.T) {
	ask := func() (l []any) {
		eachOp(func(o api.Op) {
			w, e := op.Word(o)
			s, f := op.Print(o)
			l = append(l, op.Right(o), w, e, s, f)
		})
		eachAnswer(func(a api.Answer) {
			w, e := op.Answer(a)
			l = append(l, op.Fits(a), w, e, op.Say(a))
		})
		return l
	}
	first := ask()
	for i, x := range ask() {
		if x != first[i] {
			t.Fatalf("what was asked as number %d: %v, then %v", i, first[i], x)
		}
	}
}
