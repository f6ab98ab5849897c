package meter_test

import (
	"fmt"
	"math"
	"math/rand/v2"
	"slices"
	"testing"

	"vendmeter/api"
	"vendmeter/meter"
)

// register: one of a meter's, with the highest number that it may have.
type register struct {
	name string
	most int
	at   func(*api.Meter) *int
}

// registers that are plain numbers, with the chapter's bounds.
var registers = []register{
	{"Me", 49, func(m *api.Meter) *int { return &m.Me }},
	{"Rev", 15, func(m *api.Meter) *int { return &m.Rev }},
	{"Credit", 99999999, func(m *api.Meter) *int { return &m.Credit }},
	{"Bad", 4, func(m *api.Meter) *int { return &m.Bad }},
	{"Lock", 30, func(m *api.Meter) *int { return &m.Lock }},
}

// good numbers of a register: the ends, and what is near them.
func (r register) good() []int { return []int{0, 1, 2, r.most / 2, r.most - 1, r.most} }

// wrong numbers of a register: beside the ends, at the ends of 64 bits, and those whose lower bits would be good.
func (r register) wrong() []int {
	return []int{
		-1, -2, -r.most, -r.most - 1, math.MinInt32, math.MinInt + 1, math.MinInt,
		r.most + 1, r.most + 2, 2*r.most + 1, 1 << 32, 1<<32 + 1, 1 << 40, 1 << 62, math.MaxInt - 1, math.MaxInt,
	}
}

// windows that may be.
var windows = []api.Window{
	{}, {High: 1, Bits: 1}, {High: 2, Bits: 1}, {High: 2, Bits: 3}, {High: 40, Bits: 1<<39 | 1}, {High: 63, Bits: math.MaxUint64 >> 1},
	{High: 64, Bits: math.MaxUint64}, {High: 65, Bits: 1}, {High: 1000, Bits: 0xfedcba9876543211}, {High: 1048575, Bits: math.MaxUint64},
}

// wrongWindows: those that may not be.
var wrongWindows = []api.Window{
	{Bits: 1}, {Bits: 1 << 63}, {High: 1}, {High: 1, Bits: 2}, {High: 1, Bits: 3}, {High: 5, Bits: 1<<5 | 1}, {High: 63, Bits: 1<<63 | 1},
	{High: 100, Bits: 6}, {High: -1}, {High: -1, Bits: 1}, {High: 1048576, Bits: 1}, {High: 1 << 32, Bits: 1}, {High: 1<<32 + 1, Bits: 1},
	{High: math.MaxInt, Bits: 1}, {High: math.MinInt, Bits: 1}, {High: math.MinInt},
}

// meters that may be: each register at its edges, each window.
func meters() []api.Meter {
	l := []api.Meter{{}, {Me: 49, Rev: 15, Credit: 99999999, Window: windows[9], Bad: 4}, {Me: 49, Rev: 15, Credit: 99999999, Window: windows[9], Lock: 30}}
	for _, r := range registers {
		for _, n := range r.good() {
			m := api.Meter{Me: 7, Rev: 3, Credit: 500, Window: api.Window{High: 9, Bits: 5}}
			*r.at(&m) = n
			l = append(l, m)
		}
	}
	for _, w := range windows {
		l = append(l, api.Meter{Me: 1, Rev: 2, Credit: 3, Window: w, Bad: 2}, api.Meter{Me: 1, Rev: 2, Credit: 3, Window: w, Lock: 2})
	}
	return l
}

// wrongMeters: those that may not be, each for one thing.
func wrongMeters() []api.Meter {
	var l []api.Meter
	plain := api.Meter{Me: 1, Rev: 2, Credit: 300, Window: api.Window{High: 2, Bits: 3}}
	for _, r := range registers {
		for _, n := range r.wrong() {
			m := plain
			*r.at(&m) = n
			l = append(l, m)
		}
	}
	for _, w := range wrongWindows {
		m := plain
		m.Window = w
		l = append(l, m)
	}
	for _, both := range [][2]int{{1, 1}, {4, 30}, {1, 30}, {4, 1}} {
		m := plain
		m.Bad, m.Lock = both[0], both[1]
		l = append(l, m)
	}
	return l
}

// wrongOracles: those that may not be.
var wrongOracles = []api.Oracle{
	by(pair(1, 2, 3, 4), pair(1, 2, 3, 4)), by(pair(1, 2, 3, 4), pair(1, 2, 3, 5)), by(pair(50, 0, 0, 0)), by(pair(0, 16, 0, 0)),
	by(pair(0, 0, -1, 0)), by(pair(0, 0, 0, 65536)), by(many(501)...),
}

// pair of four numbers.
func pair(me, rev, body, tag int) api.Pair {
	return api.Pair{Meter: me, Rev: rev, Body: body, Tag: tag}
}

// by: the oracle with these pairs.
func by(l ...api.Pair) api.Oracle { return api.Oracle{Pairs: l} }

// many pairs that differ in their bodies alone.
func many(n int) []api.Pair {
	l := make([]api.Pair, n)
	for i := range l {
		l[i] = pair(3, 2, i, i%7)
	}
	return l
}

// tok: a token of four numbers.
func tok(class, id, amount, tag int) api.Token {
	return api.Token{Class: class, Id: id, Amount: amount, Tag: tag}
}

// sold: the pair by which a token is sold to a meter, under a key. The body is reckoned by chapter 4's words.
func sold(me, rev int, k api.Token) api.Pair {
	return pair(me, rev, k.Class*2199023255552+k.Id*2097152+k.Amount, k.Tag)
}

// mayBe: by the chapter's words.
func mayBe(m api.Meter) bool {
	for _, r := range registers {
		if n := *r.at(&m); n < 0 || n > r.most {
			return false
		}
	}
	return windowMayBe(m.Window) && m.Bad*m.Lock == 0
}

func windowMayBe(w api.Window) bool {
	if w.High == 0 {
		return w.Bits == 0
	}
	if w.High < 1 || w.High > 1048575 || w.Bits%2 == 0 {
		return false
	}
	return !slices.ContainsFunc(told(w), func(id int) bool { return id < 1 })
}

// told: the numbers that a window's bits tell.
func told(w api.Window) []int {
	var l []int
	for i := range 64 {
		if w.Bits&(1<<i) != 0 {
			l = append(l, w.High-i)
		}
	}
	return l
}

// window with these numbers in it.
func window(ids ...int) api.Window {
	if len(ids) == 0 {
		return api.Window{}
	}
	w := api.Window{High: slices.Max(ids)}
	for _, id := range ids {
		if back := w.High - id; back < 64 {
			w.Bits |= 1 << back
		}
	}
	return w
}

// flaw of a token, by chapter 4's words.
func flaw(k api.Token) api.Errno {
	least, most := 0, 0
	switch k.Class {
	case 0:
		least, most = 1, 2097151
	case 1, 3:
	case 2:
		least, most = 1, 15
	default:
		return api.ErrClass
	}
	if k.Id < 1 || k.Id > 1048575 || k.Amount < least || k.Amount > most || k.Tag < 0 || k.Tag > 65535 {
		return api.ErrRange
	}
	return api.OK
}

// answer of Key.
type answer struct {
	m     api.Meter
	added int
	e     api.Errno
}

func key(m api.Meter, o api.Oracle, k api.Token) answer {
	next, added, e := meter.Key(m, o, k)
	return answer{next, added, e}
}

// wanted: what Key is to answer at an oracle that may be: behind what is no meter and what is no token, the chapter's
// list from its end to its beginning, so that what is named first has the last word.
func wanted(m api.Meter, o api.Oracle, k api.Token) answer {
	if !mayBe(m) {
		return answer{e: api.ErrState}
	}
	if e := flaw(k); e != api.OK {
		return answer{m, 0, e}
	}
	a := taken(m, k)
	refuse := func(e api.Errno) { a = answer{m, 0, e} }
	if k.Class == 2 && k.Amount <= m.Rev {
		refuse(api.ErrKey)
	}
	if k.Class == 0 && m.Credit+k.Amount > 99999999 {
		refuse(api.ErrCreditFull)
	}
	if slices.Contains(told(m.Window), k.Id) {
		refuse(api.ErrUsed)
	}
	if k.Id <= m.Window.High-64 {
		refuse(api.ErrOld)
	}
	if !slices.Contains(o.Pairs, sold(m.Me, m.Rev, k)) {
		a = answer{tried(m), 0, api.ErrTag}
		for rev := range m.Rev {
			if slices.Contains(o.Pairs, sold(m.Me, rev, k)) {
				refuse(api.ErrOldKey)
			}
		}
	}
	if k.Class == 3 {
		refuse(api.OK)
	}
	if m.Lock > 0 {
		refuse(api.ErrLocked)
	}
	return a
}

// taken: what is answered, if nothing refuses the token.
func taken(m api.Meter, k api.Token) answer {
	m.Window, m.Bad = window(append(told(m.Window), k.Id)...), 0
	switch k.Class {
	case 0:
		m.Credit += k.Amount
		return answer{m, k.Amount, api.OK}
	case 1:
		m.Credit = 0
	case 2:
		m.Rev = k.Amount
	}
	return answer{m, 0, api.OK}
}

// tried: the meter behind a token that nobody sold.
func tried(m api.Meter) api.Meter {
	if m.Bad == 4 {
		m.Bad, m.Lock = 0, 30
		return m
	}
	m.Bad++
	return m
}

// keyed: is this answered?
func keyed(t *testing.T, m api.Meter, o api.Oracle, k api.Token, want answer) {
	t.Helper()
	if got := key(m, o, k); got != want {
		t.Errorf("Key of %+v at %+v: %+v; want %+v", k, m, got, want)
	}
}

// mustKey a token, with this outcome.
func mustKey(t *testing.T, m api.Meter, o api.Oracle, k api.Token, added int, want api.Errno) api.Meter {
	t.Helper()
	next, n, e := meter.Key(m, o, k)
	if n != added || e != want {
		t.Fatalf("Key of %+v at %+v: %d added, %v; want %d, %v", k, m, n, e, added, want)
	}
	return next
}

// mustTick: so many ticks without a load.
func mustTick(t *testing.T, m api.Meter, n int) api.Meter {
	t.Helper()
	for range n {
		next, burned, e := meter.Tick(m, 0)
		if burned != 0 || e != api.OK {
			t.Fatalf("Tick(%+v, 0): %d burned, %v", m, burned, e)
		}
		m = next
	}
	return m
}

// P10.1

func TestMayBe(t *testing.T) {
	for _, m := range meters() {
		if !mayBe(m) {
			t.Fatalf("%+v: this test is wrong", m)
		}
		test := tok(3, 1, 0, 0)
		want := answer{m, 0, api.OK}
		if m.Lock > 0 {
			want.e = api.ErrLocked
		}
		keyed(t, m, api.Oracle{}, test, want)
		if _, _, e := meter.Tick(m, 0); e != api.OK {
			t.Errorf("Tick(%+v, 0): %v", m, e)
		}
		if _, e := meter.Words(m); e != api.OK {
			t.Errorf("Words(%+v): %v", m, e)
		}
	}
}

// TestMayNotBe: ahead of all else, and nothing is answered with it, not even the meter.
func TestMayNotBe(t *testing.T) {
	state := answer{e: api.ErrState}
	for _, m := range wrongMeters() {
		if mayBe(m) {
			t.Fatalf("%+v: this test is wrong", m)
		}
		good := tok(0, 5, 100, 7)
		for _, k := range []api.Token{good, tok(3, 1, 0, 0), tok(4, 1, 0, 0), tok(0, 0, 0, 0), tok(0, 6, 1, 1)} {
			keyed(t, m, api.Oracle{}, k, state)
			keyed(t, m, by(sold(1, 2, good)), k, state)
			keyed(t, m, wrongOracles[0], k, state)
		}
		for _, load := range []int{0, 1, 1000, 1001, -1, math.MinInt, math.MaxInt} {
			if got, burned, e := meter.Tick(m, load); got != (api.Meter{}) || burned != 0 || e != api.ErrState {
				t.Errorf("Tick(%+v, %d): %+v, %d, %v", m, load, got, burned, e)
			}
		}
		if l, e := meter.Words(m); len(l) != 0 || e != api.ErrState {
			t.Errorf("Words(%+v): %v, %v", m, l, e)
		}
	}
}

// TestMayBeBadAndLock: every two of them.
func TestMayBeBadAndLock(t *testing.T) {
	for bad := -1; bad <= 6; bad++ {
		for lock := -1; lock <= 32; lock++ {
			m := api.Meter{Bad: bad, Lock: lock}
			want := api.ErrState
			if bad == 0 && lock >= 0 && lock <= 30 || lock == 0 && bad >= 0 && bad <= 4 {
				want = api.OK
			}
			if _, e := meter.Words(m); e != want {
				t.Errorf("Words(%+v): %v, want %v", m, e, want)
			}
			if _, _, e := meter.Tick(m, 0); e != want {
				t.Errorf("Tick(%+v, 0): %v, want %v", m, e, want)
			}
		}
	}
}

// P10.2

func TestBegin(t *testing.T) {
	for me := range 50 {
		if m, e := meter.Begin(me); m != (api.Meter{Me: me}) || e != api.OK {
			t.Errorf("Begin(%d): %+v, %v", me, m, e)
		}
	}
}

func TestBeginRange(t *testing.T) {
	for _, me := range registers[0].wrong() {
		if m, e := meter.Begin(me); m != (api.Meter{}) || e != api.ErrRange {
			t.Errorf("Begin(%d): %+v, %v", me, m, e)
		}
	}
}

// P10.3

func TestKeyExamples(t *testing.T) {
	m, _ := meter.Begin(1)
	k := tok(0, 1, 100, 7)
	o := by(sold(1, 0, k))
	m = mustKey(t, m, o, k, 100, api.OK)
	if want := (api.Meter{Me: 1, Credit: 100, Window: window(1)}); m != want {
		t.Errorf("%+v, want %+v", m, want)
	}
	if again := mustKey(t, m, o, k, 0, api.ErrUsed); again != m {
		t.Errorf("once more: %+v, it was %+v", again, m)
	}
}

func TestKeyLockExample(t *testing.T) {
	m, _ := meter.Begin(1)
	good := tok(0, 1, 100, 7)
	o := by(sold(1, 0, good))
	for i := range 5 {
		m = mustKey(t, m, o, tok(0, 2+i, 100, 7), 0, api.ErrTag)
		if want := []int{1, 2, 3, 4, 0}[i]; m.Bad != want || m.Lock != i/4*30 {
			t.Fatalf("behind %d tries: %+v", i+1, m)
		}
	}
	for left := 30; left > 0; left-- {
		if m.Lock != left {
			t.Fatalf("%d ticks are left: %+v", left, m)
		}
		mustKey(t, m, o, good, 0, api.ErrLocked)
		m = mustTick(t, m, 1)
	}
	mustKey(t, m, o, good, 100, api.OK)
}

// TestKeyOracle: one that may not be.
func TestKeyOracle(t *testing.T) {
	for _, o := range wrongOracles {
		for _, k := range []api.Token{tok(0, 1, 5, 7), tok(3, 1, 0, 0), tok(9, 1, 5, 7), tok(0, 0, 5, 7)} {
			for _, m := range []api.Meter{{}, {Lock: 5}, {Me: 1, Rev: 2, Bad: 4, Credit: 7}} {
				keyed(t, m, o, k, answer{e: api.ErrState})
				with := by(append([]api.Pair{sold(m.Me, m.Rev, k)}, o.Pairs...)...)
				keyed(t, m, with, k, answer{e: api.ErrState})
			}
		}
	}
}

// wrongTokens: what Body refuses, and with what.
var wrongTokens = map[api.Token]api.Errno{
	tok(-1, 1, 1, 1):             api.ErrClass,
	tok(4, 1, 1, 1):              api.ErrClass,
	tok(5, 0, -1, -1):            api.ErrClass,
	tok(math.MinInt, 1, 1, 1):    api.ErrClass,
	tok(math.MaxInt, 1, 1, 1):    api.ErrClass,
	tok(1<<32, 1, 1, 1):          api.ErrClass,
	tok(0, 0, 1, 1):              api.ErrRange,
	tok(0, 1048576, 1, 1):        api.ErrRange,
	tok(0, -1, 1, 1):             api.ErrRange,
	tok(0, math.MinInt, 1, 1):    api.ErrRange,
	tok(0, 1, 0, 1):              api.ErrRange,
	tok(0, 1, 2097152, 1):        api.ErrRange,
	tok(0, 1, math.MaxInt, 1):    api.ErrRange,
	tok(0, 1, 1, -1):             api.ErrRange,
	tok(0, 1, 1, 65536):          api.ErrRange,
	tok(1, 1, 1, 1):              api.ErrRange,
	tok(1, 1, -1, 1):             api.ErrRange,
	tok(2, 1, 0, 1):              api.ErrRange,
	tok(2, 1, 16, 1):             api.ErrRange,
	tok(3, 1, 1, 1):              api.ErrRange,
	tok(3, 0, 0, 1):              api.ErrRange,
	tok(3, 1, 0, -1):             api.ErrRange,
	tok(3, 1, 0, 65536):          api.ErrRange,
	tok(3, 1048576, 0, 0):        api.ErrRange,
	tok(0, math.MaxInt, 1, 1):    api.ErrRange,
	tok(2, 1, math.MinInt, 1):    api.ErrRange,
	tok(1, 1, 0, math.MaxInt):    api.ErrRange,
	tok(0, 1<<32+1, 1, 1):        api.ErrRange,
	tok(2, 1, 1<<32+1, 1<<32+11): api.ErrRange,
}

// TestKeyWrongToken: also while the keypad is locked; tries are not counted.
func TestKeyWrongToken(t *testing.T) {
	for k, e := range wrongTokens {
		for _, m := range []api.Meter{{}, {Me: 3, Rev: 15, Credit: 99999999, Bad: 4, Window: windows[6]}, {Lock: 1}, {Lock: 30, Credit: 5}} {
			keyed(t, m, api.Oracle{}, k, answer{m, 0, e})
			keyed(t, m, by(many(500)...), k, answer{m, 0, e})
		}
	}
}

// TestKeyLocked: whatever is keyed, a test too, and what is refused otherwise.
func TestKeyLocked(t *testing.T) {
	for _, lock := range []int{1, 2, 15, 29, 30} {
		m := api.Meter{Me: 4, Rev: 3, Credit: 99999999, Window: window(1, 70), Lock: lock}
		for _, k := range []api.Token{
			tok(0, 71, 5, 6), tok(0, 70, 5, 6), tok(0, 1, 5, 6), tok(1, 72, 0, 6), tok(2, 73, 9, 6), tok(2, 73, 2, 6), tok(3, 1, 0, 6),
		} {
			for _, o := range []api.Oracle{{}, by(sold(4, 3, k)), by(sold(4, 2, k)), by(sold(5, 3, k))} {
				keyed(t, m, o, k, answer{m, 0, api.ErrLocked})
			}
		}
	}
}

// TestKeyTest: nothing changes, whatever the number and the tag, sold or not.
func TestKeyTest(t *testing.T) {
	for _, m := range meters() {
		if m.Lock > 0 {
			continue
		}
		for _, k := range []api.Token{tok(3, 1, 0, 0), tok(3, 1, 0, 65535), tok(3, 9, 0, 7), tok(3, 1048575, 0, 1), tok(3, 1048574, 0, 0)} {
			for _, o := range []api.Oracle{{}, by(sold(m.Me, m.Rev, k)), by(sold(m.Me, 0, k)), by(pair(0, 0, 0, 0))} {
				keyed(t, m, o, k, answer{m, 0, api.OK})
			}
		}
	}
}

// TestKeyOldKey: tries are not counted, and it does not matter that the number was taken, or is old.
func TestKeyOldKey(t *testing.T) {
	for rev := 1; rev <= 15; rev++ {
		m := api.Meter{Me: 4, Rev: rev, Credit: 99999999, Window: window(1, 70, 80), Bad: 3}
		for _, k := range []api.Token{tok(0, 90, 5, 6), tok(0, 80, 5, 6), tok(0, 1, 5, 6), tok(1, 90, 0, 6), tok(2, 90, 15, 6), tok(2, 90, 1, 6)} {
			for earlier := range rev {
				keyed(t, m, by(pair(0, 0, 0, 0), sold(4, earlier, k)), k, answer{m, 0, api.ErrOldKey})
			}
		}
	}
}

// TestKeyBothKeys: what was sold under the key of now is good, be it sold under an earlier one, too.
func TestKeyBothKeys(t *testing.T) {
	m := api.Meter{Me: 4, Rev: 2}
	k := tok(0, 1, 5, 6)
	keyed(t, m, by(sold(4, 1, k), sold(4, 2, k)), k, answer{api.Meter{Me: 4, Rev: 2, Credit: 5, Window: window(1)}, 5, api.OK})
	other := tok(0, 1, 5, 7)
	keyed(t, m, by(sold(4, 1, other), sold(4, 2, k)), other, answer{m, 0, api.ErrOldKey})
	keyed(t, m, by(sold(4, 1, other), sold(4, 3, k)), k, answer{api.Meter{Me: 4, Rev: 2, Bad: 1}, 0, api.ErrTag})
}

// TestKeyTag: what was sold otherwise than it is keyed, elsewhere, or under a later key.
func TestKeyTag(t *testing.T) {
	k := tok(0, 5, 100, 7)
	for _, rev := range []int{0, 1, 2, 14, 15} {
		var l []api.Oracle
		for _, p := range []api.Pair{
			sold(4, rev, tok(0, 5, 100, 8)), sold(4, rev, tok(0, 5, 101, 7)), sold(4, rev, tok(0, 6, 100, 7)),
			sold(4, rev, tok(1, 5, 0, 7)), sold(4, rev, tok(2, 5, 15, 7)), sold(5, rev, k), sold(3, rev, k), sold(0, rev, k),
		} {
			l = append(l, by(p))
		}
		for later := rev + 1; later <= 15; later++ {
			l = append(l, by(sold(4, later, k)))
		}
		for _, o := range append(l, api.Oracle{}, by(many(500)...)) {
			for bad := range 4 {
				m := api.Meter{Me: 4, Rev: rev, Credit: 99999999, Window: window(5), Bad: bad}
				next := m
				next.Bad++
				keyed(t, m, o, k, answer{next, 0, api.ErrTag})
			}
			m := api.Meter{Me: 4, Rev: rev, Credit: 99999999, Window: window(5), Bad: 4}
			next := m
			next.Bad, next.Lock = 0, 30
			keyed(t, m, o, k, answer{next, 0, api.ErrTag})
		}
	}
}

// TestKeyTagAllClasses: those that were taken, are old, or would not do are tries, too, where nobody sold them.
func TestKeyTagAllClasses(t *testing.T) {
	m := api.Meter{Me: 4, Rev: 9, Credit: 99999999, Window: window(1, 100)}
	next := m
	next.Bad = 1
	for _, k := range []api.Token{tok(0, 101, 1, 0), tok(0, 100, 1, 0), tok(0, 1, 1, 0), tok(1, 100, 0, 0), tok(1, 7, 0, 0), tok(2, 101, 9, 0), tok(2, 101, 10, 0)} {
		keyed(t, m, api.Oracle{}, k, answer{next, 0, api.ErrTag})
	}
}

func TestKeyJudged(t *testing.T) {
	for _, class := range []int{0, 1, 2} {
		amount := []int{1, 0, 1}[class]
		for _, c := range []struct {
			w    api.Window
			id   int
			want api.Errno
		}{
			{window(1), 1, api.ErrUsed}, {window(3, 1), 1, api.ErrUsed}, {window(3, 1), 3, api.ErrUsed},
			{window(64, 1), 1, api.ErrUsed}, {window(65), 1, api.ErrOld}, {window(65, 2), 2, api.ErrUsed}, {window(1000), 936, api.ErrOld},
			{window(1048575), 1048575, api.ErrUsed}, {window(1048575), 1048511, api.ErrOld}, {window(1048575), 1, api.ErrOld},
		} {
			// Ahead of what the register or the key would refuse.
			m := api.Meter{Me: 4, Rev: 3, Credit: 99999999, Window: c.w, Bad: 2}
			k := tok(class, c.id, amount, 9)
			keyed(t, m, by(sold(4, 3, k)), k, answer{m, 0, c.want})
		}
	}
}

func TestKeyCreditFull(t *testing.T) {
	for _, c := range []struct{ credit, units int }{
		{99999999, 1}, {99999998, 2}, {99999999, 2097151}, {97902849, 2097151}, {99999900, 100}, {99999990, 2000000},
	} {
		m := api.Meter{Me: 4, Credit: c.credit, Window: window(3), Bad: 2}
		k := tok(0, 2, c.units, 9)
		keyed(t, m, by(sold(4, 0, k)), k, answer{m, 0, api.ErrCreditFull})
		m.Credit--
		if m.Credit+c.units > 99999999 {
			continue
		}
		keyed(t, m, by(sold(4, 0, k)), k, answer{api.Meter{Me: 4, Credit: 99999999, Window: window(3, 2)}, c.units, api.OK})
	}
}

// TestKeyFullLater: what the register had no room for is keyed again when it has.
func TestKeyFullLater(t *testing.T) {
	m := api.Meter{Me: 4, Credit: 99999999}
	k := tok(0, 1, 1000, 9)
	o := by(sold(4, 0, k))
	m = mustKey(t, m, o, k, 0, api.ErrCreditFull)
	m, _, _ = meter.Tick(m, 999)
	m = mustKey(t, m, o, k, 0, api.ErrCreditFull)
	m, _, _ = meter.Tick(m, 1)
	m = mustKey(t, m, o, k, 1000, api.OK)
	mustKey(t, m, o, k, 0, api.ErrUsed)
}

func TestKeyNoLaterKey(t *testing.T) {
	for rev := range 16 {
		for amount := 1; amount <= 15; amount++ {
			m := api.Meter{Me: 4, Rev: rev, Credit: 99999999, Window: window(3), Bad: 2}
			k := tok(2, 2, amount, 9)
			want := answer{m, 0, api.ErrKey}
			if amount > rev {
				want = answer{api.Meter{Me: 4, Rev: amount, Credit: 99999999, Window: window(3, 2)}, 0, api.OK}
			}
			keyed(t, m, by(sold(4, rev, k)), k, want)
		}
	}
}

// P10.4

func TestTaken(t *testing.T) {
	m := api.Meter{Me: 4, Rev: 3, Credit: 500, Window: window(5, 3), Bad: 4}
	for _, c := range []struct {
		k    api.Token
		want answer
	}{
		{tok(0, 6, 100, 9), answer{api.Meter{Me: 4, Rev: 3, Credit: 600, Window: window(6, 5, 3)}, 100, api.OK}},
		{tok(0, 1, 1, 0), answer{api.Meter{Me: 4, Rev: 3, Credit: 501, Window: window(5, 3, 1)}, 1, api.OK}},
		{tok(0, 4, 2097151, 65535), answer{api.Meter{Me: 4, Rev: 3, Credit: 2097651, Window: window(5, 4, 3)}, 2097151, api.OK}},
		{tok(0, 1048575, 7, 9), answer{api.Meter{Me: 4, Rev: 3, Credit: 507, Window: window(1048575)}, 7, api.OK}},
		{tok(1, 4, 0, 9), answer{api.Meter{Me: 4, Rev: 3, Window: window(5, 4, 3)}, 0, api.OK}},
		{tok(1, 69, 0, 9), answer{api.Meter{Me: 4, Rev: 3, Window: api.Window{High: 69, Bits: 1}}, 0, api.OK}},
		{tok(2, 68, 4, 9), answer{api.Meter{Me: 4, Rev: 4, Credit: 500, Window: api.Window{High: 68, Bits: 1<<63 | 1}}, 0, api.OK}},
		{tok(2, 6, 15, 9), answer{api.Meter{Me: 4, Rev: 15, Credit: 500, Window: window(6, 5, 3)}, 0, api.OK}},
	} {
		keyed(t, m, by(pair(0, 0, 0, 0), sold(4, 3, c.k), pair(4, 3, 1, 1)), c.k, c.want)
	}
}

// TestTakenTriesBegin: a token that was taken begins the count of tries anew; one that was refused does not.
func TestTakenTriesBegin(t *testing.T) {
	m, _ := meter.Begin(2)
	k, old := tok(0, 1, 10, 7), tok(0, 2, 10, 7)
	m.Rev = 1
	o := by(sold(2, 1, k), sold(2, 0, old))
	bad := tok(0, 3, 10, 7)
	for range 4 {
		m = mustKey(t, m, o, bad, 0, api.ErrTag)
	}
	m = mustKey(t, m, o, k, 10, api.OK)
	for range 4 {
		m = mustKey(t, m, o, bad, 0, api.ErrTag)
		m = mustKey(t, m, o, k, 0, api.ErrUsed)
		m = mustKey(t, m, o, old, 0, api.ErrOldKey)
		m = mustKey(t, m, o, tok(3, 1, 0, 0), 0, api.OK)
		m = mustKey(t, m, o, tok(0, 1, 0, 0), 0, api.ErrRange)
		m = mustTick(t, m, 1)
	}
	m = mustKey(t, m, o, bad, 0, api.ErrTag)
	if want := (api.Meter{Me: 2, Rev: 1, Credit: 10, Window: window(1), Lock: 30}); m != want {
		t.Errorf("%+v, want %+v", m, want)
	}
}

// TestTakenChange: behind a change what was sold under the key of before is ErrOldKey, what comes under the new one is good.
func TestTakenChange(t *testing.T) {
	m, _ := meter.Begin(2)
	before, change, behind := tok(0, 1, 10, 7), tok(2, 2, 1, 8), tok(0, 3, 10, 9)
	o := by(sold(2, 0, before), sold(2, 0, change), sold(2, 1, behind))
	mustKey(t, m, o, behind, 0, api.ErrTag)
	m = mustKey(t, m, o, change, 0, api.OK)
	mustKey(t, m, o, before, 0, api.ErrOldKey)
	mustKey(t, m, o, change, 0, api.ErrOldKey)
	if m = mustKey(t, m, o, behind, 10, api.OK); m != (api.Meter{Me: 2, Rev: 1, Credit: 10, Window: window(3, 2)}) {
		t.Errorf("%+v", m)
	}
}

// drawnMeter: one of few numbers, at edges often; now and then one that may not be.
func drawnMeter(r *rand.Rand) api.Meter {
	m := api.Meter{Me: r.IntN(2), Rev: r.IntN(4), Credit: []int{0, 50, 99999900, 99999999}[r.IntN(4)]}
	if high := r.IntN(80); high > 0 {
		m.Window.High, m.Window.Bits = high, r.Uint64()|1
		if high < 64 {
			m.Window.Bits &= 1<<high - 1
		}
	}
	switch r.IntN(4) {
	case 0:
		m.Lock = r.IntN(31)
	case 1, 2:
		m.Bad = r.IntN(5)
	}
	if r.IntN(30) == 0 {
		g := registers[r.IntN(len(registers))]
		*g.at(&m) = g.wrong()[r.IntN(len(g.wrong()))]
	}
	return m
}

// drawnToken: one that may be, but for now and then.
func drawnToken(r *rand.Rand) api.Token {
	k := tok(r.IntN(4), 1+r.IntN(90), 0, r.IntN(2))
	switch k.Class {
	case 0:
		k.Amount = 1 + r.IntN(150)
	case 2:
		k.Amount = 1 + r.IntN(4)
	}
	if r.IntN(30) == 0 {
		at := []*int{&k.Class, &k.Id, &k.Amount, &k.Tag}[r.IntN(4)]
		*at = []int{-1, 4, 1 << 21, math.MinInt, math.MaxInt}[r.IntN(5)]
	}
	return k
}

// drawnOracle: it knows the token, mostly, for some meters and keys.
func drawnOracle(r *rand.Rand, k api.Token) api.Oracle {
	if flaw(k) != api.OK {
		return by(many(r.IntN(3))...)
	}
	var o api.Oracle
	for me := range 2 {
		for rev := range 4 {
			if r.IntN(2) == 0 {
				p := sold(me, rev, k)
				p.Tag = (p.Tag + r.IntN(5)/4) % 2
				o.Pairs = append(o.Pairs, p)
			}
		}
	}
	return o
}

// TestKeyDrawn: held against the chapter's list.
func TestKeyDrawn(t *testing.T) {
	r := rand.New(rand.NewPCG(10, 1))
	count := map[api.Errno]int{}
	for range 60000 {
		m, k := drawnMeter(r), drawnToken(r)
		o := drawnOracle(r, k)
		got, want := key(m, o, k), wanted(m, o, k)
		if got != want {
			t.Fatalf("Key of %+v at %+v with %+v: %+v; want %+v", k, m, o, got, want)
		}
		count[want.e]++
	}
	for _, e := range []api.Errno{
		api.OK, api.ErrState, api.ErrClass, api.ErrRange, api.ErrLocked, api.ErrOldKey, api.ErrTag, api.ErrOld, api.ErrUsed, api.ErrCreditFull, api.ErrKey,
	} {
		if count[e] < 50 {
			t.Errorf("%v came %d times: drawn too much alike", e, count[e])
		}
	}
}

// P10.5

func TestTick(t *testing.T) {
	for _, c := range []struct{ credit, load, burned int }{
		{0, 0, 0}, {0, 1, 0}, {0, 1000, 0}, {1, 0, 0}, {1, 1, 1}, {1, 2, 1}, {5, 9, 5}, {9, 5, 5}, {999, 1000, 999}, {1000, 1000, 1000},
		{1001, 1000, 1000}, {99999999, 1000, 1000}, {99999999, 999, 999}, {99999999, 0, 0},
	} {
		for _, lock := range []int{0, 1, 2, 15, 29, 30} {
			m := api.Meter{Me: 4, Rev: 3, Credit: c.credit, Window: window(7, 5), Lock: lock}
			want := m
			want.Credit = c.credit - c.burned
			if lock > 0 {
				want.Lock = lock - 1
			}
			if got, burned, e := meter.Tick(m, c.load); got != want || burned != c.burned || e != api.OK {
				t.Errorf("Tick(%+v, %d): %+v, %d, %v; want %+v, %d", m, c.load, got, burned, e, want, c.burned)
			}
		}
	}
}

// TestTickTries: ticks do not change how many tries there were.
func TestTickTries(t *testing.T) {
	for bad := range 5 {
		m := api.Meter{Me: 4, Credit: 9, Window: window(7), Bad: bad}
		want := api.Meter{Me: 4, Credit: 6, Window: window(7), Bad: bad}
		if got, burned, e := meter.Tick(m, 3); got != want || burned != 3 || e != api.OK {
			t.Errorf("Tick(%+v, 3): %+v, %d, %v", m, got, burned, e)
		}
	}
}

func TestTickRange(t *testing.T) {
	for _, load := range []int{-1, -2, -1000, math.MinInt, math.MinInt + 1, 1001, 1002, 1 << 32, 1<<32 + 1, math.MaxInt - 1, math.MaxInt} {
		for _, m := range meters() {
			if got, burned, e := meter.Tick(m, load); got != m || burned != 0 || e != api.ErrRange {
				t.Errorf("Tick(%+v, %d): %+v, %d, %v", m, load, got, burned, e)
			}
		}
	}
}

func TestTickEvery(t *testing.T) {
	for load := range 1001 {
		for _, credit := range []int{0, load - 1, load, load + 1, 500, 99999999} {
			if credit < 0 {
				continue
			}
			m := api.Meter{Credit: credit}
			got, burned, e := meter.Tick(m, load)
			if burned != min(load, credit) || got != (api.Meter{Credit: credit - burned}) || e != api.OK {
				t.Fatalf("Tick(%+v, %d): %+v, %d, %v", m, load, got, burned, e)
			}
		}
	}
}

// P10.6

func TestWords(t *testing.T) {
	for _, c := range []struct {
		m    api.Meter
		want []uint32
	}{
		{api.Meter{}, []uint32{0, 0, 0, 0, 0}},
		{api.Meter{Me: 3, Rev: 2, Credit: 9, Bad: 1, Window: api.Window{High: 2, Bits: 3}}, []uint32{9, 0x00010203, 2, 3, 0}},
		{api.Meter{Me: 1}, []uint32{0, 1, 0, 0, 0}},
		{api.Meter{Rev: 1}, []uint32{0, 0x100, 0, 0, 0}},
		{api.Meter{Bad: 1}, []uint32{0, 0x10000, 0, 0, 0}},
		{api.Meter{Lock: 1}, []uint32{0, 0x1000000, 0, 0, 0}},
		{api.Meter{Credit: 1}, []uint32{1, 0, 0, 0, 0}},
		{api.Meter{Window: api.Window{High: 40, Bits: 1<<39 | 1}}, []uint32{0, 0, 40, 1, 128}},
		{api.Meter{Window: api.Window{High: 70, Bits: 0xfedcba9876543211}}, []uint32{0, 0, 70, 0x76543211, 0xfedcba98}},
		{
			api.Meter{Me: 49, Rev: 15, Credit: 99999999, Lock: 30, Window: api.Window{High: 1048575, Bits: math.MaxUint64}},
			[]uint32{99999999, 0x1e000f31, 1048575, math.MaxUint32, math.MaxUint32},
		},
	} {
		if l, e := meter.Words(c.m); !slices.Equal(l, c.want) || e != api.OK {
			t.Errorf("Words(%+v): %x, %v; want %x", c.m, l, e, c.want)
		}
		if m, e := meter.Read(c.want); m != c.m || e != api.OK {
			t.Errorf("Read(%x): %+v, %v; want %+v", c.want, m, e, c.m)
		}
	}
}

// P10.7

// TestReadBack: what Words tells, Read makes the meter of again.
func TestReadBack(t *testing.T) {
	for _, m := range meters() {
		l, _ := meter.Words(m)
		if got, e := meter.Read(l); got != m || e != api.OK {
			t.Errorf("Read(%v): %+v, %v; want %+v", l, got, e, m)
		}
	}
}

// TestReadSize: ahead of what the words are.
func TestReadSize(t *testing.T) {
	for _, n := range []int{0, 1, 2, 3, 4, 6, 7, 10, 64, 1000} {
		for _, word := range []uint32{0, math.MaxUint32} {
			if m, e := meter.Read(slices.Repeat([]uint32{word}, n)); m != (api.Meter{}) || e != api.ErrSize {
				t.Errorf("Read of %d words %d: %+v, %v", n, word, m, e)
			}
		}
	}
	if m, e := meter.Read(nil); m != (api.Meter{}) || e != api.ErrSize {
		t.Errorf("Read of no list: %+v, %v", m, e)
	}
}

func TestReadState(t *testing.T) {
	for _, l := range [][]uint32{
		{100000000, 0, 0, 0, 0}, {math.MaxUint32, 0, 0, 0, 0}, {1 << 31, 0, 0, 0, 0}, // the credit
		{0, 50, 0, 0, 0}, {0, 0xff, 0, 0, 0}, // Me
		{0, 0x1000, 0, 0, 0}, {0, 0xff00, 0, 0, 0}, // Rev
		{0, 0x50000, 0, 0, 0}, {0, 0xff0000, 0, 0, 0}, // Bad
		{0, 0x1f000000, 0, 0, 0}, {0, 0xff000000, 0, 0, 0}, // Lock
		{0, 0x1010000, 0, 0, 0}, {0, 0x1e040000, 0, 0, 0}, // Bad and Lock
		{0, 0, 0, 1, 0}, {0, 0, 0, 0, 1}, {0, 0, 1, 0, 0}, {0, 0, 1, 3, 0}, {0, 0, 1, 2, 0}, {0, 0, 40, 1, 1 << 8}, {0, 0, 100, 0, 1},
		{0, 0, 1048576, 1, 0}, {0, 0, math.MaxUint32, 1, 0}, {0, 0, 1 << 31, 1, 0},
		{math.MaxUint32, math.MaxUint32, math.MaxUint32, math.MaxUint32, math.MaxUint32},
	} {
		if m, e := meter.Read(l); m != (api.Meter{}) || e != api.ErrState {
			t.Errorf("Read(%x): %+v, %v", l, m, e)
		}
	}
}

// TestReadDrawn: what Read makes a meter of are its words; what it refuses is no meter's, by the chapter's words.
func TestReadDrawn(t *testing.T) {
	r := rand.New(rand.NewPCG(10, 2))
	count := map[api.Errno]int{}
	for range 50000 {
		l := []uint32{uint32(r.IntN(100000100)), uint32(r.IntN(52) + r.IntN(17)<<8), uint32(r.IntN(90)), r.Uint32() | uint32(r.IntN(8)), r.Uint32()}
		l[1] |= []uint32{0, uint32(r.IntN(6)) << 16, uint32(r.IntN(32)) << 24, uint32(r.IntN(2)<<16 + r.IntN(2)<<24)}[r.IntN(4)]
		want := api.Meter{
			Me: int(l[1] % 256), Rev: int(l[1] / 256 % 256), Credit: int(l[0]), Bad: int(l[1] / 65536 % 256), Lock: int(l[1] / 16777216),
			Window: api.Window{High: int(l[2]), Bits: uint64(l[4])*4294967296 + uint64(l[3])},
		}
		code := api.OK
		if !mayBe(want) {
			want, code = api.Meter{}, api.ErrState
		}
		count[code]++
		m, e := meter.Read(l)
		if m != want || e != code {
			t.Fatalf("Read(%x): %+v, %v; want %+v, %v", l, m, e, want, code)
		}
		if back, _ := meter.Words(m); code == api.OK && !slices.Equal(back, l) {
			t.Fatalf("Words(%+v): %x; want %x", m, back, l)
		}
	}
	if count[api.OK] < 1000 || count[api.ErrState] < 1000 {
		t.Errorf("drawn too much alike: %v", count)
	}
}

// What comes of it

// life of a meter: what is sold, where and under which key, keyed in any order, again and again, with ticks between.
type life struct {
	*rand.Rand
	m     api.Meter
	o     api.Oracle
	known []api.Token
	sold  map[api.Pair]bool
	added map[int]bool // numbers whose units were added
}

// sell a token, to this meter mostly, under the key that it has, mostly.
func (l *life) sell() {
	k := drawnToken(l.Rand)
	if flaw(k) != api.OK || len(l.o.Pairs) == 500 {
		return
	}
	p := sold(l.IntN(4)/3, min(l.m.Rev+l.IntN(5)/4, 15), k)
	same := func(q api.Pair) bool { return q.Meter == p.Meter && q.Rev == p.Rev && q.Body == p.Body }
	if !slices.ContainsFunc(l.o.Pairs, same) {
		l.o.Pairs = append(l.o.Pairs, p)
		l.sold[p] = true
	}
	l.known = append(l.known, k)
}

// TestOnlyWhatWasSold: nothing but a token that was sold here, under the key that the meter has, adds credit, and that once.
func TestOnlyWhatWasSold(t *testing.T) {
	r := rand.New(rand.NewPCG(10, 3))
	times := 0
	for range 40 {
		l := life{Rand: r, sold: map[api.Pair]bool{}, added: map[int]bool{}}
		credit := 0
		for range 300 {
			l.sell()
			k := drawnToken(r)
			if len(l.known) > 0 && r.IntN(4) > 0 {
				k = l.known[r.IntN(len(l.known))]
			}
			was := l.m
			next, n, e := meter.Key(l.m, l.o, k)
			switch {
			case n > 0:
				if e != api.OK || k.Class != 0 || k.Amount != n || !l.sold[sold(was.Me, was.Rev, k)] || l.added[k.Id] {
					t.Fatalf("%+v at %+v: %d added, %v", k, was, n, e)
				}
				l.added[k.Id] = true
				credit += n
				times++
			case next.Credit > was.Credit:
				t.Fatalf("%+v at %+v: %+v, with nothing added", k, was, next)
			case e == api.OK && k.Class == 1:
				credit = 0
			}
			burned := 0
			l.m, burned, _ = meter.Tick(next, r.IntN(20))
			if credit -= burned; l.m.Credit != credit {
				t.Fatalf("the credit of %+v: want %d", l.m, credit)
			}
		}
	}
	if times < 200 {
		t.Errorf("units were added %d times alone", times)
	}
}

// What holds everywhere: lists that are handed in stay as they are, answers are new memory.

// smear over a list and its spare room.
func smear[T any](l []T, with T) {
	l = l[:cap(l)]
	for i := range l {
		l[i] = with
	}
}

func TestListsStay(t *testing.T) {
	k := tok(0, 1, 5, 7)
	room := []api.Pair{sold(1, 0, k), pair(1, 0, 6, 9), pair(7, 7, 7, 7), pair(6, 6, 6, 6)}
	was := slices.Clone(room)
	for n := range len(room) {
		for _, c := range []api.Token{k, tok(0, 2, 5, 7), tok(0, 0, 0, 0), tok(3, 1, 0, 0)} {
			key(api.Meter{Me: 1}, by(room[:n]...), c)
		}
	}
	if !slices.Equal(room, was) {
		t.Errorf("the pairs and their spare room: %+v; they were %+v", room, was)
	}
	words := []uint32{9, 66051, 2, 3, 0, 77, 78}
	wordsWere := slices.Clone(words)
	for n := range len(words) + 1 {
		meter.Read(words[:n])
	}
	if !slices.Equal(words, wordsWere) {
		t.Errorf("words and their spare room: %v; they were %v", words, wordsWere)
	}
}

func TestAnswersApart(t *testing.T) {
	m := api.Meter{Me: 3, Rev: 2, Credit: 9, Bad: 1, Window: api.Window{High: 2, Bits: 3}}
	one, _ := meter.Words(m)
	two, _ := meter.Words(m)
	smear(one, 99)
	three, _ := meter.Words(m)
	for _, l := range [][]uint32{two, three} {
		if want := []uint32{9, 66051, 2, 3, 0}; !slices.Equal(l, want) {
			t.Errorf("behind a change of another answer: %v, want %v", l, want)
		}
	}
}

// TestNothingKept: the same call answers the same, whatever was called between.
func TestNothingKept(t *testing.T) {
	m, k := api.Meter{Me: 1, Credit: 5, Bad: 4}, tok(0, 1, 5, 7)
	o := by(sold(1, 0, k))
	tell := func() string {
		return fmt.Sprint(key(m, o, k), key(m, api.Oracle{}, k), key(m, o, tok(0, 1, 0, 0)))
	}
	first := tell()
	meter.Tick(m, 3)
	meter.Begin(7)
	key(m, api.Oracle{}, k)
	if again := tell(); again != first {
		t.Errorf("%s, then %s", first, again)
	}
}
