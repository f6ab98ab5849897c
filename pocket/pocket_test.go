package pocket_test

import (
	"fmt"
	"math"
	"math/rand/v2"
	"slices"
	"strings"
	"testing"

	"vendmeter/api"
	"vendmeter/cell"
	"vendmeter/meter"
	"vendmeter/pocket"
	"vendmeter/token"
)

// plain: a meter of which each register tells itself from the others.
var plain = api.Meter{Me: 7, Rev: 3, Credit: 500, Window: api.Window{High: 100, Bits: 1<<63 | 1<<40 | 5}, Bad: 2}

// meters that may be: new ones, full ones, locked ones.
var meters = []api.Meter{
	{}, {Me: 1}, {Me: 49}, plain,
	{Me: 3, Credit: 1, Lock: 1},
	{Me: 3, Lock: 30},
	{Me: 3, Bad: 4},
	{Me: 49, Rev: 15, Credit: 99999999, Window: api.Window{High: 1048575, Bits: math.MaxUint64}, Bad: 4},
	{Me: 49, Rev: 15, Credit: 99999999, Window: api.Window{High: 1048575, Bits: 1}, Lock: 30},
}

// wrongRecords: words that no meter that may be has.
var wrongRecords = [][]uint32{
	{100000000, 0, 0, 0, 0}, {math.MaxUint32, 0, 0, 0, 0}, // the credit
	{0, 50, 0, 0, 0}, {0, 99, 0, 0, 0}, {0, 255, 0, 0, 0}, {0, 16 << 8, 0, 0, 0}, {0, 5 << 16, 0, 0, 0}, {0, 31 << 24, 0, 0, 0},
	{0, 1<<24 | 1<<16, 0, 0, 0},                                                                      // tries while it is locked
	{0, 0, 1048576, 1, 0}, {0, 0, 1, 0, 0}, {0, 0, 0, 1, 0}, {0, 0, 0, 0, 1}, {0, 0, 5, 1<<5 | 1, 0}, // the window
	{math.MaxUint32, math.MaxUint32, math.MaxUint32, math.MaxUint32, math.MaxUint32},
}

// badMarks: words that make no slot good.
var badMarks = []uint32{0, 4, 5, 256, 257, 1<<16 + 1, 1<<31 + 2, math.MaxUint32}

// marks of two slots, whether the first one counts, and the mark that comes behind the one that counts.
type marks struct {
	first, second uint32
	firstCounts   bool
	then          uint32
}

// allMarks of slots of which one counts.
var allMarks = []marks{
	{1, 0, true, 2}, {2, 0, true, 3}, {3, 0, true, 1}, {1, 4, true, 2}, {3, math.MaxUint32, true, 1},
	{0, 1, false, 2}, {0, 2, false, 3}, {0, 3, false, 1}, {4, 1, false, 2}, {math.MaxUint32, 3, false, 1},
	{1, 1, true, 2}, {1, 2, false, 3}, {1, 3, true, 2},
	{2, 1, true, 3}, {2, 2, true, 3}, {2, 3, false, 1},
	{3, 1, false, 2}, {3, 2, true, 1}, {3, 3, true, 1},
}

// others: words of the slot that does not count: none yet, a meter's, and those of no meter, marks among them.
var others = [][]uint32{{0, 0, 0, 0, 0}, {9, 4, 1, 1, 0}, {1, 2, 3, 2, 1}, {math.MaxUint32, math.MaxUint32, 7, 0, 1}}

// lay two slots.
func lay(first uint32, one []uint32, second uint32, two []uint32) []uint32 {
	return slices.Concat([]uint32{first}, one, []uint32{second}, two)
}

// lay a record into the slot that counts, and other words into the other one.
func (k marks) lay(counts, other []uint32) []uint32 {
	if k.firstCounts {
		return lay(k.first, counts, k.second, other)
	}
	return lay(k.first, other, k.second, counts)
}

// laying: the writes that lay a meter into the slot that does not count.
func (k marks) laying(m api.Meter) []api.Write {
	at := 0
	if k.firstCounts {
		at = 6
	}
	l := []api.Write{{At: at, Word: 0}}
	for i, word := range record(m) {
		l = append(l, api.Write{At: at + 1 + i, Word: word})
	}
	return append(l, api.Write{At: at, Word: k.then})
}

// record of a meter, by chapter 10's words.
func record(m api.Meter) []uint32 {
	small := m.Me + 256*m.Rev + 65536*m.Bad + 16777216*m.Lock
	return []uint32{uint32(m.Credit), uint32(small), uint32(m.Window.High), uint32(m.Window.Bits), uint32(m.Window.Bits >> 32)}
}

// holding: slots of which the first counts and holds a meter.
func holding(m api.Meter) []uint32 { return allMarks[0].lay(record(m), others[0]) }

// pair of four numbers.
func pair(me, rev, body, tag int) api.Pair {
	return api.Pair{Meter: me, Rev: rev, Body: body, Tag: tag}
}

// by: the oracle with these pairs.
func by(l ...api.Pair) api.Oracle { return api.Oracle{Pairs: l} }

// tok: a token of four numbers.
func tok(class, id, amount, tag int) api.Token {
	return api.Token{Class: class, Id: id, Amount: amount, Tag: tag}
}

// sold: the pair by which a token is sold to a meter, under a key. The body is reckoned by chapter 4's words.
func sold(me, rev int, k api.Token) api.Pair {
	return pair(me, rev, k.Class*2199023255552+k.Id*2097152+k.Amount, k.Tag)
}

// digits of a token.
func digits(t *testing.T, k api.Token) string {
	t.Helper()
	s, e := token.Format(k)
	if e != api.OK {
		t.Fatalf("Format(%+v): %v", k, e)
	}
	return s
}

// answer of a step.
type answer struct {
	l []api.Write
	n int
	e api.Errno
}

func (a answer) equal(b answer) bool { return slices.Equal(a.l, b.l) && a.n == b.n && a.e == b.e }

func keyed(c []uint32, o api.Oracle, text string) answer {
	l, n, e := pocket.Keyed(c, o, text)
	return answer{l, n, e}
}

func ticked(c []uint32, load int) answer {
	l, n, e := pocket.Ticked(c, load)
	return answer{l, n, e}
}

// booted: the meter of words that must be taken.
func booted(t *testing.T, c []uint32) api.Meter {
	t.Helper()
	m, e := pocket.Boot(c)
	if e != api.OK {
		t.Fatalf("Boot(%v): %v", c, e)
	}
	return m
}

// made: the words of a new meter that may be.
func made(t *testing.T, me int) []uint32 {
	t.Helper()
	c, e := pocket.Make(me)
	if e != api.OK {
		t.Fatalf("Make(%d): %v", me, e)
	}
	return c
}

// behind: words behind the first k of the writes.
func behind(t *testing.T, c []uint32, l []api.Write, k int) []uint32 {
	t.Helper()
	after, e := cell.Apply(c, l, k)
	if e != api.OK {
		t.Fatalf("Apply(%v, %v, %d): %v", c, l, k, e)
	}
	return after
}

// P11.1

func TestMake(t *testing.T) {
	for me := range 50 {
		want := []uint32{1, 0, uint32(me), 0, 0, 0, 0, 0, 0, 0, 0, 0}
		if c := made(t, me); !slices.Equal(c, want) {
			t.Errorf("Make(%d): %v, want %v", me, c, want)
		}
		if m := booted(t, made(t, me)); m != (api.Meter{Me: me}) {
			t.Errorf("Make(%d) boots %+v", me, m)
		}
	}
}

func TestMakeRange(t *testing.T) {
	for _, me := range []int{-1, -2, -50, 50, 51, 99, 255, 256, 257, 1 << 32, 1<<32 + 3, 1 << 62, math.MaxInt, math.MinInt, math.MinInt + 3} {
		if c, e := pocket.Make(me); len(c) != 0 || e != api.ErrRange {
			t.Errorf("Make(%d): %v, %v; want ErrRange", me, c, e)
		}
	}
}

// P11.2

// TestBoot: the slot that counts, wherever it is and whatever the other one holds.
func TestBoot(t *testing.T) {
	for _, m := range meters {
		for _, k := range allMarks {
			for _, other := range slices.Concat(others, wrongRecords) {
				c := k.lay(record(m), other)
				if got, e := pocket.Boot(c); got != m || e != api.OK {
					t.Fatalf("Boot(%v): %+v, %v; want %+v", c, got, e, m)
				}
			}
		}
	}
}

func TestBootExamples(t *testing.T) {
	for _, c := range []struct {
		words []uint32
		m     api.Meter
		e     api.Errno
	}{
		{[]uint32{1, 7, 3, 0, 0, 0, 0, 0, 0, 0, 0, 0}, api.Meter{Me: 3, Credit: 7}, api.OK},
		{[]uint32{1, 7, 3, 0, 0, 0, 2, 8, 4, 0, 0, 0}, api.Meter{Me: 4, Credit: 8}, api.OK},
		{[]uint32{1, 7, 3, 0, 0, 0, 3, 8, 4, 0, 0, 0}, api.Meter{Me: 3, Credit: 7}, api.OK},
		{[]uint32{2, 7, 3 | 2<<8 | 30<<24, 66, 1, 1 << 31, 2, 8, 4, 0, 0, 0}, api.Meter{Me: 3, Rev: 2, Credit: 7, Window: api.Window{High: 66, Bits: 1<<63 | 1}, Lock: 30}, api.OK},
		{[]uint32{0, 7, 3, 0, 0, 0, 0, 8, 4, 0, 0, 0}, api.Meter{}, api.ErrBlank},
		{[]uint32{1, 7, 99, 0, 0, 0, 0, 8, 4, 0, 0, 0}, api.Meter{}, api.ErrState},
	} {
		if m, e := pocket.Boot(c.words); m != c.m || e != c.e {
			t.Errorf("Boot(%v): %+v, %v; want %+v, %v", c.words, m, e, c.m, c.e)
		}
	}
}

// wrongWords: words that no meter boots from, with the error that is named first.
type wrongWords struct {
	c []uint32
	e api.Errno
}

func wrong() []wrongWords {
	var l []wrongWords
	for n := range 64 {
		if n != 12 {
			noughts, ones := make([]uint32, n), make([]uint32, n)
			for i := range ones {
				ones[i] = 1
			}
			l = append(l, wrongWords{noughts, api.ErrSize}, wrongWords{ones, api.ErrSize})
		}
	}
	l = append(l, wrongWords{nil, api.ErrSize}, wrongWords{append(holding(plain), 0), api.ErrSize}, wrongWords{holding(plain)[:11], api.ErrSize})
	// No slot is good: what they hold is not asked for.
	for i, bad := range badMarks {
		also := badMarks[(i+3)%len(badMarks)]
		l = append(l, wrongWords{lay(bad, record(plain), also, record(plain)), api.ErrBlank})
		l = append(l, wrongWords{lay(also, wrongRecords[i], bad, wrongRecords[i]), api.ErrBlank})
	}
	// The other slot does not help, though a meter has its words.
	for _, rec := range wrongRecords {
		for _, k := range allMarks {
			l = append(l, wrongWords{k.lay(rec, record(plain)), api.ErrState}, wrongWords{k.lay(rec, others[0]), api.ErrState})
		}
	}
	return l
}

func TestBootWrong(t *testing.T) {
	for _, w := range wrong() {
		if m, e := pocket.Boot(w.c); m != (api.Meter{}) || e != w.e {
			t.Fatalf("Boot(%v): %+v, %v; want %v", w.c, m, e, w.e)
		}
	}
}

// counting: where the slot that counts begins, by two marks from 0 to 4; -1: none does.
func counting(first, second uint32) int {
	for _, k := range allMarks {
		if k.first == first%4 && k.second == second%4 {
			if k.firstCounts {
				return 0
			}
			return 6
		}
	}
	return -1
}

// TestBootDrawn: words that are drawn, held against chapters 7 and 10.
func TestBootDrawn(t *testing.T) {
	r := rand.New(rand.NewPCG(11, 1))
	met := map[api.Errno]int{}
	for range 30000 {
		c := make([]uint32, 12)
		for i := range c {
			switch r.IntN(3) {
			case 0:
				c[i] = uint32(r.IntN(4))
			case 1:
				c[i] = r.Uint32() >> r.IntN(32)
			}
		}
		c[0], c[6] = uint32(r.IntN(5)), uint32(r.IntN(5))
		want, wantE := api.Meter{}, api.ErrBlank
		if at := counting(c[0], c[6]); at >= 0 {
			want, wantE = meter.Read(c[at+1 : at+6])
		}
		if m, e := pocket.Boot(c); m != want || e != wantE {
			t.Fatalf("Boot(%v): %+v, %v; want %+v, %v", c, m, e, want, wantE)
		}
		met[wantE]++
	}
	for _, e := range []api.Errno{api.OK, api.ErrBlank, api.ErrState} {
		if met[e] < 100 {
			t.Errorf("this test met %v %d times only", e, met[e])
		}
	}
}

// P11.3

// TestWrites: all words of the new record, from the mark that goes to the mark that comes.
func TestWrites(t *testing.T) {
	good := tok(0, 101, 250, 9)
	o := by(sold(7, 3, good))
	filled := plain
	filled.Credit, filled.Bad, filled.Window = 750, 0, api.Window{High: 101, Bits: 1<<41 | 11}
	tried, burned := plain, plain
	tried.Bad = 3
	burned.Credit = 460
	for _, k := range allMarks {
		for _, other := range slices.Concat(others, [][]uint32{record(filled), record(tried), record(burned)}) {
			c := k.lay(record(plain), other)
			if got, want := keyed(c, o, digits(t, good)), (answer{k.laying(filled), 250, api.OK}); !got.equal(want) {
				t.Fatalf("Keyed at %v: %v, want %v", c, got, want)
			}
			if got, want := keyed(c, by(), digits(t, good)), (answer{k.laying(tried), 0, api.ErrTag}); !got.equal(want) {
				t.Fatalf("Keyed at %v, not sold: %v, want %v", c, got, want)
			}
			if got, want := ticked(c, 40), (answer{k.laying(burned), 40, api.OK}); !got.equal(want) {
				t.Fatalf("Ticked at %v: %v, want %v", c, got, want)
			}
		}
	}
}

// TestNoWrites: the same meter is not stored again.
func TestNoWrites(t *testing.T) {
	for _, k := range allMarks {
		for _, m := range meters {
			for _, other := range others {
				c := k.lay(record(m), other)
				if got := keyed(c, by(), digits(t, tok(3, 5, 0, 77))); m.Lock == 0 && !got.equal(answer{}) {
					t.Fatalf("a test keyed at %v: %v", c, got)
				}
				if got := ticked(c, 0); m.Lock == 0 && !got.equal(answer{}) {
					t.Fatalf("Ticked(%v, 0): %v", c, got)
				}
				if got := ticked(c, 1000); m.Lock == 0 && m.Credit == 0 && !got.equal(answer{}) {
					t.Fatalf("Ticked(%v, 1000): %v", c, got)
				}
			}
		}
	}
}

// TestOneRegisterIsEnough: however little differs, the record is stored whole.
func TestOneRegisterIsEnough(t *testing.T) {
	next := func(change func(*api.Meter)) api.Meter {
		m := plain
		change(&m)
		return m
	}
	empty := next(func(m *api.Meter) { m.Credit, m.Bad = 0, 0 })
	wipe, rekey := tok(1, 99, 0, 4), tok(2, 99, 4, 5)
	o := by(sold(7, 3, wipe), sold(7, 3, rekey))
	for _, c := range []struct {
		name   string
		m      api.Meter
		step   func([]uint32) answer
		behind api.Meter
	}{
		{"the credit", plain, func(c []uint32) answer { return ticked(c, 1) }, next(func(m *api.Meter) { m.Credit = 499 })},
		{"the tries", plain, func(c []uint32) answer { return keyed(c, by(), digits(t, rekey)) }, next(func(m *api.Meter) { m.Bad = 3 })},
		{"the lock", api.Meter{Me: 3, Lock: 1}, func(c []uint32) answer { return ticked(c, 9) }, api.Meter{Me: 3}},
		{"the window", empty, func(c []uint32) answer { return keyed(c, o, digits(t, wipe)) }, next(func(m *api.Meter) { m.Credit, m.Bad, m.Window.Bits = 0, 0, 1<<63|1<<40|7 })},
		{"the key", plain, func(c []uint32) answer { return keyed(c, o, digits(t, rekey)) }, next(func(m *api.Meter) { m.Rev, m.Bad, m.Window.Bits = 4, 0, 1<<63|1<<40|7 })},
	} {
		for _, k := range allMarks {
			words := k.lay(record(c.m), others[1])
			if got, want := c.step(words), k.laying(c.behind); !slices.Equal(got.l, want) {
				t.Errorf("%s, at %v: %v, want %v", c.name, words, got.l, want)
			}
		}
	}
}

// P11.4

func TestKeyedExample(t *testing.T) {
	want := []api.Write{{At: 6, Word: 0}, {At: 7, Word: 0}, {At: 8, Word: 65539}, {At: 9, Word: 0}, {At: 10, Word: 0}, {At: 11, Word: 0}, {At: 6, Word: 2}}
	got := keyed([]uint32{1, 0, 3, 0, 0, 0, 0, 0, 0, 0, 0, 0}, api.Oracle{}, "00000013332214186663")
	if !got.equal(answer{want, 0, api.ErrTag}) {
		t.Errorf("what nobody sold: %v, want %v", got, want)
	}
}

// TestKeyed: each thing that a token may do, and each refusal.
func TestKeyed(t *testing.T) {
	for _, c := range []struct {
		name   string
		m      api.Meter
		rev    int // under which it was sold
		k      api.Token
		added  int
		e      api.Errno
		behind api.Meter
	}{
		{"credit", api.Meter{Me: 3, Bad: 4}, 0, tok(0, 1, 100, 7), 100, api.OK, api.Meter{Me: 3, Credit: 100, Window: api.Window{High: 1, Bits: 1}}},
		{"all that fits", api.Meter{Me: 3, Credit: 97902848}, 0, tok(0, 9, 2097151, 0), 2097151, api.OK, api.Meter{Me: 3, Credit: 99999999, Window: api.Window{High: 9, Bits: 1}}},
		{"clear", api.Meter{Me: 3, Credit: 55}, 0, tok(1, 2, 0, 65535), 0, api.OK, api.Meter{Me: 3, Window: api.Window{High: 2, Bits: 1}}},
		{"change", api.Meter{Me: 3, Rev: 2, Credit: 55}, 2, tok(2, 2, 15, 1), 0, api.OK, api.Meter{Me: 3, Rev: 15, Credit: 55, Window: api.Window{High: 2, Bits: 1}}},
		{"test", api.Meter{Me: 3, Credit: 55, Bad: 4}, 0, tok(3, 2, 0, 1), 0, api.OK, api.Meter{Me: 3, Credit: 55, Bad: 4}},
		{"a number further back", api.Meter{Me: 3, Window: api.Window{High: 64, Bits: 1}}, 0, tok(0, 1, 5, 7), 5, api.OK, api.Meter{Me: 3, Credit: 5, Window: api.Window{High: 64, Bits: 1<<63 | 1}}},
		{"locked", api.Meter{Me: 3, Lock: 1}, 0, tok(0, 1, 100, 7), 0, api.ErrLocked, api.Meter{}},
		{"a test, locked", api.Meter{Me: 3, Lock: 30}, 0, tok(3, 1, 0, 7), 0, api.ErrLocked, api.Meter{}},
		{"an old key", api.Meter{Me: 3, Rev: 2}, 1, tok(0, 1, 100, 7), 0, api.ErrOldKey, api.Meter{}},
		{"a later key", api.Meter{Me: 3, Rev: 2}, 3, tok(0, 1, 100, 7), 0, api.ErrTag, api.Meter{Me: 3, Rev: 2, Bad: 1}},
		{"a later key, the fifth try", api.Meter{Me: 3, Rev: 2, Credit: 8, Bad: 4}, 3, tok(0, 1, 100, 7), 0, api.ErrTag, api.Meter{Me: 3, Rev: 2, Credit: 8, Lock: 30}},
		{"too old", api.Meter{Me: 3, Bad: 1, Window: api.Window{High: 65, Bits: 1}}, 0, tok(0, 1, 100, 7), 0, api.ErrOld, api.Meter{}},
		{"used", api.Meter{Me: 3, Bad: 1, Window: api.Window{High: 65, Bits: 3}}, 0, tok(0, 64, 100, 7), 0, api.ErrUsed, api.Meter{}},
		{"full", api.Meter{Me: 3, Credit: 97902849, Bad: 1}, 0, tok(0, 9, 2097151, 0), 0, api.ErrCreditFull, api.Meter{}},
		{"no later key", api.Meter{Me: 3, Rev: 2, Bad: 1}, 2, tok(2, 2, 2, 1), 0, api.ErrKey, api.Meter{}},
	} {
		for _, k := range allMarks {
			words, want := k.lay(record(c.m), others[2]), answer{nil, c.added, c.e}
			if (c.e == api.OK || c.e == api.ErrTag) && c.behind != c.m {
				want.l = k.laying(c.behind)
			}
			if got := keyed(words, by(sold(c.m.Me, c.rev, c.k)), digits(t, c.k)); !got.equal(want) {
				t.Errorf("%s, at %v: %v, want %v", c.name, words, got, want)
			}
		}
	}
}

// TestKeyedElsewhere: what was sold to another meter is nothing here.
func TestKeyedElsewhere(t *testing.T) {
	k := tok(0, 1, 100, 7)
	o := by(sold(3, 0, k))
	for me := range 50 {
		want := answer{allMarks[0].laying(api.Meter{Me: me, Bad: 1}), 0, api.ErrTag}
		if me == 3 {
			want = answer{allMarks[0].laying(api.Meter{Me: 3, Credit: 100, Window: api.Window{High: 1, Bits: 1}}), 100, api.OK}
		}
		if got := keyed(made(t, me), o, digits(t, k)); !got.equal(want) {
			t.Errorf("at the meter %d: %v, want %v", me, got, want)
		}
	}
}

// wrongTexts, with what Parse answers for each.
var wrongTexts = []struct {
	text string
	e    api.Errno
}{
	{"", api.ErrLength}, {"1", api.ErrLength}, {"0000001333221418666", api.ErrLength}, {"000000133322141866630", api.ErrLength},
	{"0000001333221418666#3", api.ErrLength}, {strings.Repeat("0", 2000), api.ErrLength}, {"x", api.ErrLength},
	{"0000001333221418666x", api.ErrDigit}, {" 0000001333221418666", api.ErrDigit}, {"-0000001333221418666", api.ErrDigit},
	{"0000001333221418666\xff", api.ErrDigit}, {"000000133322141866\u0663", api.ErrDigit}, {"9999999999999999999\x00", api.ErrDigit},
	{"99999999999999999999", api.ErrRange}, {"73786976294838206464", api.ErrRange}, {"00000000000000000000", api.ErrRange},
	{"00000013332214186664", api.ErrCheck}, {"00000013332214186636", api.ErrCheck}, {"10000013332214186663", api.ErrCheck}, {"00000000000000000001", api.ErrCheck},
}

// wrongOracles: those that may not be.
var wrongOracles = []api.Oracle{
	by(pair(1, 2, 3, 4), pair(1, 2, 3, 4)), by(pair(1, 2, 3, 4), pair(1, 2, 3, 5)), by(pair(50, 0, 0, 0)), by(pair(0, 16, 0, 0)),
	by(pair(0, 0, -1, 0)), by(pair(0, 0, 0, 65536)), by(make([]api.Pair, 501)...),
}

// TestKeyedWrongWords: ahead of what is keyed and of the oracle.
func TestKeyedWrongWords(t *testing.T) {
	good := digits(t, tok(0, 1, 100, 7))
	o := by(sold(7, 3, tok(0, 1, 100, 7)))
	for _, w := range wrong() {
		want := answer{e: w.e}
		for _, text := range []string{good, "", "x", wrongTexts[7].text, wrongTexts[13].text, wrongTexts[16].text} {
			for _, o := range []api.Oracle{o, {}, wrongOracles[0]} {
				if got := keyed(w.c, o, text); !got.equal(want) {
					t.Fatalf("Keyed(%v, %v, %q): %v, want %v", w.c, o, text, got, want)
				}
			}
		}
	}
}

// TestKeyedWrongText: ahead of what the meter and the oracle say, and nothing is written: digits that say nothing are no try.
func TestKeyedWrongText(t *testing.T) {
	for _, c := range wrongTexts {
		if _, e := token.Parse(c.text); e != c.e {
			t.Fatalf("Parse(%q): %v; this test is wrong", c.text, e)
		}
		for _, m := range meters {
			for _, o := range append(wrongOracles, api.Oracle{}) {
				if got := keyed(holding(m), o, c.text); !got.equal(answer{e: c.e}) {
					t.Fatalf("Keyed of %q at %+v: %v, want %v", c.text, m, got, c.e)
				}
			}
		}
	}
}

// TestKeyedWrongOracle: whatever the token, a test and at a locked meter, too.
func TestKeyedWrongOracle(t *testing.T) {
	for _, o := range wrongOracles {
		for _, m := range meters {
			for _, k := range []api.Token{tok(0, 1, 100, 7), tok(1, 2, 0, 4), tok(2, 3, 5, 6), tok(3, 1, 0, 0)} {
				if got := keyed(holding(m), o, digits(t, k)); !got.equal(answer{e: api.ErrState}) {
					t.Fatalf("Keyed of %+v at %+v, %v: %v, want ErrState", k, m, o, got)
				}
			}
		}
	}
}

// TestKeyedAll: meters, tokens and oracles that are drawn, held against Key.
func TestKeyedAll(t *testing.T) {
	r := rand.New(rand.NewPCG(11, 2))
	met := map[api.Errno]int{}
	for range 20000 {
		m := drawnMeter(r)
		var o api.Oracle
		k := drawnToken(r, m)
		if r.IntN(4) > 0 {
			o = by(sold(m.Me, min(15, max(0, m.Rev+r.IntN(3)-1)), k))
		}
		if r.IntN(2) == 0 {
			o = by(sold(m.Me, m.Rev, k))
		}
		layout := allMarks[r.IntN(len(allMarks))]
		c := layout.lay(record(m), others[r.IntN(len(others))])
		next, added, e := meter.Key(m, o, k)
		want := answer{nil, added, e}
		if next != m {
			want.l = layout.laying(next)
		}
		if got := keyed(c, o, digits(t, k)); !got.equal(want) {
			t.Fatalf("Keyed of %+v at %+v with %v: %v, want %v", k, m, o, got, want)
		}
		met[e]++
	}
	for _, e := range []api.Errno{api.OK, api.ErrLocked, api.ErrOldKey, api.ErrTag, api.ErrOld, api.ErrUsed, api.ErrCreditFull, api.ErrKey} {
		if met[e] < 20 {
			t.Errorf("this test met %v %d times only", e, met[e])
		}
	}
}

// drawnMeter: one that may be.
func drawnMeter(r *rand.Rand) api.Meter {
	m := api.Meter{Me: r.IntN(50), Rev: r.IntN(16), Credit: r.IntN(3000)}
	if r.IntN(4) == 0 {
		m.Credit = 99999999 - r.IntN(3000)
	}
	switch r.IntN(6) {
	case 0:
		m.Lock = r.IntN(31)
	case 1, 2:
		m.Bad = r.IntN(5)
	}
	if high := r.IntN(200); high > 0 {
		m.Window = api.Window{High: high, Bits: r.Uint64() | 1}
		if high < 64 {
			m.Window.Bits &= 1<<high - 1
		}
	}
	return m
}

// drawnToken: one that may be, with a number that a meter may judge in whichever way.
func drawnToken(r *rand.Rand, m api.Meter) api.Token {
	id := max(1, m.Window.High+r.IntN(90)-80)
	switch r.IntN(6) {
	case 0:
		return tok(1, id, 0, r.IntN(65536))
	case 1:
		return tok(2, id, 1+r.IntN(15), r.IntN(65536))
	case 2:
		return tok(3, id, 0, r.IntN(65536))
	}
	return tok(0, id, 1+r.IntN(2000), r.IntN(65536))
}

// P11.5

func TestTickedExample(t *testing.T) {
	if got := ticked([]uint32{1, 0, 3, 0, 0, 0, 0, 0, 0, 0, 0, 0}, 5); !got.equal(answer{}) {
		t.Errorf("a new meter, with the load 5: %v", got)
	}
}

func TestTicked(t *testing.T) {
	for _, c := range []struct {
		m      api.Meter
		load   int
		burned int
		behind api.Meter
	}{
		{api.Meter{Me: 3, Credit: 10}, 0, 0, api.Meter{Me: 3, Credit: 10}},
		{api.Meter{Me: 3, Credit: 10}, 1, 1, api.Meter{Me: 3, Credit: 9}},
		{api.Meter{Me: 3, Credit: 10, Bad: 4}, 9, 9, api.Meter{Me: 3, Credit: 1, Bad: 4}},
		{api.Meter{Me: 3, Credit: 10}, 10, 10, api.Meter{Me: 3}},
		{api.Meter{Me: 3, Credit: 10}, 11, 10, api.Meter{Me: 3}},
		{api.Meter{Me: 3, Credit: 10}, 1000, 10, api.Meter{Me: 3}},
		{api.Meter{Me: 3, Credit: 99999999}, 1000, 1000, api.Meter{Me: 3, Credit: 99998999}},
		{api.Meter{Me: 3, Lock: 30}, 0, 0, api.Meter{Me: 3, Lock: 29}},
		{api.Meter{Me: 3, Lock: 1}, 1000, 0, api.Meter{Me: 3}},
		{api.Meter{Me: 3, Credit: 4, Lock: 2}, 3, 3, api.Meter{Me: 3, Credit: 1, Lock: 1}},
	} {
		for _, k := range allMarks {
			words, want := k.lay(record(c.m), others[3]), answer{nil, c.burned, api.OK}
			if c.behind != c.m {
				want.l = k.laying(c.behind)
			}
			if got := ticked(words, c.load); !got.equal(want) {
				t.Errorf("Ticked(%v, %d): %v, want %v", words, c.load, got, want)
			}
		}
	}
}

// wrongLoads: those that no tick has.
var wrongLoads = []int{-1, -2, -1000, 1001, 1002, 1 << 32, 1<<32 + 5, 1 << 62, math.MaxInt, math.MinInt, math.MinInt + 5}

func TestTickedRange(t *testing.T) {
	for _, load := range wrongLoads {
		for _, m := range meters {
			if got := ticked(holding(m), load); !got.equal(answer{e: api.ErrRange}) {
				t.Fatalf("Ticked of %+v, %d: %v, want ErrRange", m, load, got)
			}
		}
	}
}

// TestTickedWrongWords: ahead of the load.
func TestTickedWrongWords(t *testing.T) {
	for _, w := range wrong() {
		for _, load := range append(wrongLoads, 0, 1, 1000) {
			if got := ticked(w.c, load); !got.equal(answer{e: w.e}) {
				t.Fatalf("Ticked(%v, %d): %v, want %v", w.c, load, got, w.e)
			}
		}
	}
}

func TestTickedAll(t *testing.T) {
	r := rand.New(rand.NewPCG(11, 3))
	for range 10000 {
		m, load := drawnMeter(r), r.IntN(1100)-50
		layout := allMarks[r.IntN(len(allMarks))]
		next, burned, e := meter.Tick(m, load)
		want := answer{nil, burned, e}
		if next != m {
			want.l = layout.laying(next)
		}
		if got := ticked(layout.lay(record(m), others[r.IntN(len(others))]), load); !got.equal(want) {
			t.Fatalf("Ticked of %+v, %d: %v, want %v", m, load, got, want)
		}
	}
}

// What comes of it

// TestOldOrNew: behind any number of a step's writes the meter is the one from before, till the last write is done.
func TestOldOrNew(t *testing.T) {
	r := rand.New(rand.NewPCG(11, 4))
	for range 3000 {
		m := drawnMeter(r)
		k := drawnToken(r, m)
		o := by(sold(m.Me, m.Rev, k))
		c := allMarks[r.IntN(len(allMarks))].lay(record(m), others[r.IntN(len(others))])
		after, _, _ := meter.Key(m, o, k)
		oldOrNew(t, c, keyed(c, o, digits(t, k)).l, m, after)
		after, _, _ = meter.Key(m, by(), k)
		oldOrNew(t, c, keyed(c, by(), digits(t, k)).l, m, after)
		after, _, _ = meter.Tick(m, 500)
		oldOrNew(t, c, ticked(c, 500).l, m, after)
	}
}

func oldOrNew(t *testing.T, c []uint32, l []api.Write, before, after api.Meter) {
	t.Helper()
	for k := range len(l) {
		if m := booted(t, behind(t, c, l, k)); m != before {
			t.Fatalf("%v behind %d of %v: %+v, want %+v", c, k, l, m, before)
		}
	}
	if m := booted(t, behind(t, c, l, len(l))); m != after {
		t.Fatalf("%v behind all of %v: %+v, want %+v", c, l, m, after)
	}
}

// TestKeyedOnceMore: what a power cut took away is added once, however often the power goes.
func TestKeyedOnceMore(t *testing.T) {
	k := tok(0, 1, 100, 7)
	o, text := by(sold(3, 0, k)), digits(t, k)
	full := api.Meter{Me: 3, Credit: 100, Window: api.Window{High: 1, Bits: 1}}
	for first := range 7 {
		for second := range 7 {
			c := made(t, 3)
			for _, cut := range []int{first, second, first} {
				got := keyed(c, o, text)
				if got.n != 100 || got.e != api.OK || len(got.l) != 7 {
					t.Fatalf("cut at %d, %d: %v", first, second, got)
				}
				c = behind(t, c, got.l, cut)
				if m := booted(t, c); m != (api.Meter{Me: 3}) {
					t.Fatalf("cut at %d, %d: %+v", first, second, m)
				}
			}
			c = behind(t, c, keyed(c, o, text).l, 7)
			if m := booted(t, c); m != full {
				t.Fatalf("cut at %d, %d, then not: %+v", first, second, m)
			}
			if got := keyed(c, o, text); !got.equal(answer{e: api.ErrUsed}) {
				t.Fatalf("cut at %d, %d, then not, then once more: %v", first, second, got)
			}
		}
	}
}

// TestTriesOutlast: five tokens that nobody sold lock the keypad, though the power goes behind each.
func TestTriesOutlast(t *testing.T) {
	k := tok(0, 1, 100, 7)
	o, text, strange := by(sold(3, 0, k)), digits(t, k), digits(t, tok(0, 1, 100, 8))
	c := made(t, 3)
	for try := range 5 {
		got := keyed(c, o, strange)
		if got.n != 0 || got.e != api.ErrTag || len(got.l) != 7 {
			t.Fatalf("the try %d: %v", try, got)
		}
		c = behind(t, c, got.l, 7)
	}
	for tick := range 30 {
		if got := keyed(c, o, text); !got.equal(answer{e: api.ErrLocked}) {
			t.Fatalf("behind %d ticks: %v", tick, got)
		}
		c = behind(t, c, ticked(c, 0).l, 7)
	}
	if got := keyed(c, o, text); got.n != 100 || got.e != api.OK {
		t.Fatalf("behind 30 ticks: %v", got)
	}
}

// TestLives: whole lives of meters whose power goes now and then, held against plain registers.
func TestLives(t *testing.T) {
	r := rand.New(rand.NewPCG(11, 5))
	for life := range 40 {
		me := r.IntN(50)
		c, m := made(t, me), api.Meter{Me: me}
		var o api.Oracle
		var known []string
		worth, burned := map[string]int{}, 0
		for range 200 {
			if k := tok(0, 1+len(known), 1+r.IntN(300), r.IntN(65536)); len(known) < 60 && r.IntN(3) == 0 {
				o.Pairs = append(o.Pairs, sold(me, 0, k))
				known = append(known, digits(t, k))
			}
			var got answer
			var next api.Meter
			var text string
			if len(known) > 0 && r.IntN(3) > 0 {
				text = known[r.IntN(len(known))]
				k, _ := token.Parse(text)
				got = keyed(c, o, text)
				next, _, _ = meter.Key(m, o, k)
			} else {
				load := r.IntN(60)
				got = ticked(c, load)
				next, _, _ = meter.Tick(m, load)
			}
			done := min(len(got.l), r.IntN(20))
			c = behind(t, c, got.l, done)
			if done == len(got.l) {
				m = next
				if text == "" {
					burned += got.n
				} else {
					worth[text] += got.n
				}
			}
			if now := booted(t, c); now != m {
				t.Fatalf("life %d: %+v, want %+v", life, now, m)
			}
		}
		once := 0
		for text, n := range worth {
			if k, _ := token.Parse(text); n != 0 && n != k.Amount {
				t.Errorf("life %d: %s, worth %d, added %d", life, text, k.Amount, n)
			}
			once += n
		}
		if m.Credit != once-burned {
			t.Errorf("life %d: %d were added and %d burned; the credit is %d", life, once, burned, m.Credit)
		}
	}
}

// What holds everywhere: lists that are handed in stay as they are, answers are new memory.

// smear over a list and its spare room.
func smear[T any](l []T, with T) {
	l = l[:cap(l)]
	for i := range l {
		l[i] = with
	}
}

func TestListsStay(t *testing.T) {
	k := tok(0, 101, 250, 9)
	text := digits(t, k)
	room := append(holding(plain), 90, 91, 92, 93, 94, 95, 96, 97)
	pairs := []api.Pair{sold(7, 3, k), pair(1, 2, 3, 4), pair(9, 9, 9, 9)}
	roomWas, pairsWas := slices.Clone(room), slices.Clone(pairs)
	c, o := room[:12], by(pairs[:1]...)
	booted(t, c)
	for range 2 {
		for _, l := range [][]api.Write{keyed(c, o, text).l, keyed(c, by(), text).l, ticked(c, 40).l} {
			if len(l) != 7 {
				t.Fatalf("writes: %v", l)
			}
			smear(l, api.Write{At: 99, Word: 99})
		}
	}
	if !slices.Equal(room, roomWas) || !slices.Equal(pairs, pairsWas) {
		t.Errorf("lists and their spare room: %v %v; they were %v %v", room, pairs, roomWas, pairsWas)
	}
}

func TestAnswersApart(t *testing.T) {
	one, two := made(t, 3), made(t, 3)
	smear(one, 99)
	for _, c := range [][]uint32{two, made(t, 3)} {
		if want := holding(api.Meter{Me: 3}); !slices.Equal(c, want) {
			t.Errorf("behind a change of another answer: %v, want %v", c, want)
		}
	}
	k := tok(0, 101, 250, 9)
	c, o, text := holding(plain), by(sold(7, 3, k)), digits(t, k)
	for _, step := range []func() answer{
		func() answer { return keyed(c, o, text) },
		func() answer { return keyed(c, by(), text) },
		func() answer { return ticked(c, 40) },
	} {
		first, second := step(), step()
		was := fmt.Sprint(second)
		smear(first.l, api.Write{At: 99, Word: 99})
		if now := fmt.Sprint(second); now != was {
			t.Errorf("another list of writes changed: %s; it was %s", now, was)
		}
	}
}

// TestArgumentsOnly: what is changed behind a call is not seen in its answer, and nothing is kept.
func TestArgumentsOnly(t *testing.T) {
	k := tok(0, 101, 250, 9)
	c, o, text := holding(plain), by(sold(7, 3, k)), digits(t, k)
	key, tick := keyed(c, o, text), ticked(c, 40)
	keyWas, tickWas := fmt.Sprint(key), fmt.Sprint(tick)
	smear(c, 99)
	smear(o.Pairs, pair(9, 9, 9, 9))
	if fmt.Sprint(key) != keyWas || fmt.Sprint(tick) != tickWas {
		t.Errorf("answers changed with what was handed in: %v %v", key, tick)
	}
	again := holding(plain)
	if got := fmt.Sprint(keyed(again, by(sold(7, 3, k)), text)); got != keyWas {
		t.Errorf("asked again: %s, want %s", got, keyWas)
	}
}
