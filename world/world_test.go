package world_test

import (
	"fmt"
	"math"
	"math/big"
	"math/rand/v2"
	"slices"
	"strings"
	"sync"
	"testing"

	"vendmeter/api"
	"vendmeter/keypad"
	"vendmeter/pocket"
	"vendmeter/vend"
	"vendmeter/world"
)

// ten: terms of one step, 10 cents a unit, and nothing else.
var ten = api.Terms{Tariff: []api.Step{{Upto: 10000000, Price: 10}}}

// full: terms in which nothing is 0.
var full = api.Terms{Tariff: []api.Step{{Upto: 50, Price: 10}, {Upto: 10000000, Price: 20}}, FeeFix: 3, FeeBp: 150, DebtBp: 3000, Allowance: 25}

// strange: numbers that are hardly anything, some of which are others of 32 bits.
var strange = []int{math.MinInt, math.MinInt + 1, math.MinInt32, -1 << 32, -50, -2, -1, 1 << 31, 1<<32 - 1, 1 << 32, 1<<32 + 1, 1<<32 + 2, 1 << 62, math.MaxInt - 1, math.MaxInt}

// wrongCuts: strange numbers below 0, but -1.
var wrongCuts = strange[:6]

// Acts without a cut.

func register(meter int) api.Act { return api.Act{Kind: 1, Meter: meter, Cut: -1} }
func sell(meter, tender, month, draw int) api.Act {
	return api.Act{Kind: 2, Meter: meter, A: tender, B: month, C: draw, Cut: -1}
}
func grant(meter, month, draw int) api.Act {
	return api.Act{Kind: 3, Meter: meter, A: month, C: draw, Cut: -1}
}
func rekey(meter, draw int) api.Act { return api.Act{Kind: 4, Meter: meter, C: draw, Cut: -1} }
func charge(meter, owed, bp int) api.Act {
	return api.Act{Kind: 5, Meter: meter, A: owed, B: bp, Cut: -1}
}
func key(meter int, text string) api.Act  { return api.Act{Kind: 6, Meter: meter, Text: text, Cut: -1} }
func tick(meter, load int) api.Act        { return api.Act{Kind: 7, Meter: meter, A: load, Cut: -1} }
func cutAt(a api.Act, writes int) api.Act { a.Cut = writes; return a }

// oneOfEach kind.
func oneOfEach() []api.Act {
	return []api.Act{register(1), sell(1, 100, 0, 7), grant(1, 0, 7), rekey(1, 7), charge(1, 40, 250), key(1, "1#"), tick(1, 3)}
}

// begun: a world that is.
func begun(t *testing.T, terms api.Terms, disk, meters int) api.World {
	t.Helper()
	w, e := world.Begin(terms, disk, meters)
	if e != api.OK {
		t.Fatalf("Begin with %v, %d and %d: %v", terms, disk, meters, e)
	}
	return w
}

// does a step: the world behind it, and what was told.
func does(t *testing.T, w api.World, a api.Act) (api.World, api.Told) {
	t.Helper()
	w, told, e := world.Do(w, a)
	if e != api.OK {
		t.Fatalf("%#v: %v", a, e)
	}
	return w, told
}

// after some steps: the world behind them.
func after(t *testing.T, w api.World, l ...api.Act) api.World {
	t.Helper()
	for _, a := range l {
		w, _ = does(t, w, a)
	}
	return w
}

// tells: does a step tell this? The world behind it.
func tells(t *testing.T, w api.World, a api.Act, want api.Told) api.World {
	t.Helper()
	next, told := does(t, w, a)
	if told != want {
		t.Fatalf("%#v at %v: %+v, want %+v", a, w, told, want)
	}
	return next
}

// refuses a step: told is the Code alone, and the world stays as it was.
func refuses(t *testing.T, w api.World, a api.Act, want api.Errno) {
	t.Helper()
	if next := tells(t, w, a, api.Told{Code: want}); !same(next, w) {
		t.Fatalf("%#v is refused, yet makes %v of %v", a, next, w)
	}
}

// sells a token: its digits, and the world behind it.
func sells(t *testing.T, w api.World, a api.Act) (api.World, string) {
	t.Helper()
	w, told := does(t, w, a)
	if told.Code != api.OK || len(told.Text) != 20 {
		t.Fatalf("%#v: %+v", a, told)
	}
	return w, told.Text
}

// same worlds? An empty list may be nil or not.
func same(a, b api.World) bool { return fmt.Sprint(a) == fmt.Sprint(b) }

// own copy of a world, with no spare room.
func own(w api.World) api.World {
	w.Terms.Tariff = slices.Clip(slices.Clone(w.Terms.Tariff))
	w.Disk = slices.Clip(slices.Clone(w.Disk))
	w.Oracle.Pairs = slices.Clip(slices.Clone(w.Oracle.Pairs))
	w.Pockets = slices.Clone(w.Pockets)
	for i := range w.Pockets {
		w.Pockets[i] = slices.Clip(slices.Clone(w.Pockets[i]))
	}
	return w
}

// digitsOf a token, in numbers of any size.
func digitsOf(class, id, amount, tag int) string {
	n := new(big.Int).Lsh(big.NewInt(int64(class)), 41)
	n.Add(n, new(big.Int).Lsh(big.NewInt(int64(id)), 21))
	n.Add(n, big.NewInt(int64(amount)))
	n.Lsh(n, 16)
	n.Add(n, big.NewInt(int64(tag)))
	return fmt.Sprintf("%020s", n.Mul(n, big.NewInt(97)).String())
}

func bodyOf(class, id, amount int) int { return class<<41 + id<<21 + amount }

// slowly: a step, in the chapter's words, one after the other.
func slowly(w api.World, a api.Act) (api.World, api.Told, api.Errno) {
	switch {
	case a.Kind < 1 || a.Kind > 7 || a.Cut < -1:
		return api.World{}, api.Told{}, api.ErrForm
	case len(w.Pockets) > 50:
		return api.World{}, api.Told{}, api.ErrSize
	}
	w = own(w)
	told, l, words := api.Told{}, []api.Write(nil), w.Disk
	var tags api.Oracle
	var slip api.Receipt
	switch a.Kind {
	case 1:
		l, told.Code = vend.Register(w.Terms, w.Disk, a.Meter)
	case 2:
		l, tags, slip, told.Code = vend.Sell(w.Terms, w.Disk, w.Oracle, a.Meter, a.A, a.B, a.C)
	case 3:
		l, tags, slip, told.Code = vend.Grant(w.Terms, w.Disk, w.Oracle, a.Meter, a.A, a.C)
	case 4:
		l, tags, slip, told.Code = vend.Rekey(w.Terms, w.Disk, w.Oracle, a.Meter, a.C)
	case 5:
		l, told.Code = vend.Charge(w.Terms, w.Disk, a.Meter, api.Debt{Owed: a.A, Bp: a.B})
	case 6, 7:
		if a.Meter < 0 || a.Meter >= len(w.Pockets) {
			told.Code = api.ErrNoMeter
			break
		}
		words = w.Pockets[a.Meter]
		if a.Kind == 7 {
			l, told.Added, told.Code = pocket.Ticked(words, a.A)
		} else {
			l, told.Added, told.Code = slowlyKeyed(words, w.Oracle, a.Text)
		}
	}
	if a.Kind >= 2 && a.Kind <= 4 && told.Code == api.OK {
		w.Oracle, told.Text, told.Bill = tags, slip.Token, slip.Bill
	}
	for i, x := range l {
		if a.Cut < 0 || i < a.Cut {
			words[x.At] = x.Word
		}
	}
	if a.Cut >= 0 {
		told = api.Told{Dead: true}
	}
	return w, told, api.OK
}

// slowlyKeyed: a text, in the words of P23.4.
func slowlyKeyed(words []uint32, o api.Oracle, text string) ([]api.Write, int, api.Errno) {
	entries, _, e := keypad.Keys(text)
	if e != api.OK {
		return nil, 0, e
	}
	words = slices.Clone(words)
	var all []api.Write
	sum, last := 0, api.ErrNone
	for _, entry := range entries {
		if last = entry.Code; last != api.OK {
			continue
		}
		l, added, e := pocket.Keyed(words, o, entry.Text)
		for _, x := range l {
			words[x.At] = x.Word
		}
		all, sum, last = append(all, l...), sum+added, e
	}
	return all, sum, last
}

// held against the chapter's words: the world behind the step.
func held(t *testing.T, w api.World, a api.Act) (api.World, api.Told, api.Errno) {
	t.Helper()
	want, told, e := slowly(w, a)
	got, gotTold, f := world.Do(w, a)
	if !same(got, want) || gotTold != told || f != e {
		t.Fatalf("%#v at %v:\n%v, %+v, %v; want\n%v, %+v, %v", a, w, got, gotTold, f, want, told, e)
	}
	return got, gotTold, f
}

// The examples.

// TestExample: the chapter's.
func TestExample(t *testing.T) {
	w := begun(t, ten, 200, 2)
	w = tells(t, w, register(1), api.Told{})
	digits := digitsOf(0, 1, 10, 7)
	w = tells(t, w, sell(1, 100, 0, 7), api.Told{Text: digits, Bill: api.Bill{Id: 1, Tender: 100, Price: 100, Units: 10}})
	w = tells(t, w, key(1, digits+"#"), api.Told{Added: 10})
	refuses(t, w, key(1, digits+"#"), api.ErrUsed)
	tells(t, w, key(0, digits+"#"), api.Told{Code: api.ErrTag})
}

// TestWhole: the document's, with a new key, and with the power going.
func TestWhole(t *testing.T) {
	w := after(t, begun(t, ten, 200, 2), register(1))
	digits := digitsOf(0, 1, 10, 7)
	was, _ := vend.Load(w.Terms, w.Disk)
	cut := tells(t, w, cutAt(sell(1, 100, 0, 7), 3), api.Told{Dead: true})
	if is, e := vend.Load(cut.Terms, cut.Disk); e != api.OK || fmt.Sprint(is) != fmt.Sprint(was) {
		t.Errorf("the book is %+v (%v), and was %+v", is, e, was)
	}
	for _, draw := range []int{7, 0, 8, 65535} {
		if _, again := sells(t, cut, sell(1, 100, 0, draw)); again != digits {
			t.Errorf("the same sale with the draw %d: %s, else %s", draw, again, digits)
		}
	}
	w, late := sells(t, after(t, w, sell(1, 100, 0, 7)), sell(1, 50, 0, 11))
	w, change := sells(t, w, rekey(1, 9))
	w, fresh := sells(t, w, sell(1, 20, 0, 10))
	if change != digitsOf(2, 2+1, 1, 9) || fresh != digitsOf(0, 4, 2, 10) {
		t.Errorf("told are %s and %s", change, fresh)
	}
	w = tells(t, w, key(1, digits+"#"), api.Told{Added: 10})
	w = tells(t, w, key(1, fresh+"#"), api.Told{Code: api.ErrTag})
	w = tells(t, w, key(1, change+"#"), api.Told{})
	refuses(t, w, key(1, late+"#"), api.ErrOldKey)
	tells(t, w, key(1, fresh+"#"), api.Told{Added: 2})
}

// P23.1

func TestBegin(t *testing.T) {
	for _, terms := range []api.Terms{ten, full, {Tariff: full.Tariff, FeeFix: 100000, FeeBp: 10000, DebtBp: 10000, Allowance: 2097151}} {
		for _, disk := range []int{1, 2, 200, 2047, 2048} {
			for _, meters := range []int{0, 1, 2, 3, 49, 50} {
				want := api.World{Terms: terms, Disk: make([]uint32, disk)}
				for me := range meters {
					want.Pockets = append(want.Pockets, []uint32{1, 0, uint32(me), 0, 0, 0, 0, 0, 0, 0, 0, 0})
				}
				if got, e := world.Begin(terms, disk, meters); e != api.OK || !same(got, want) {
					t.Fatalf("%v, %d, %d: %v, %v", terms, disk, meters, got, e)
				}
			}
		}
	}
}

// noBegin: is a world refused so, with nothing told of it?
func noBegin(t *testing.T, terms api.Terms, disk, meters int, want api.Errno) {
	t.Helper()
	if got, e := world.Begin(terms, disk, meters); e != want || !same(got, api.World{}) {
		t.Fatalf("%v, %d, %d: %v, %v, want %v", terms, disk, meters, got, e, want)
	}
}

// wrongTerms: terms that Check refuses.
var wrongTerms = map[api.Errno][]api.Terms{
	api.ErrSize:  {{}, {Tariff: make([]api.Step, 9)}},
	api.ErrRange: {{Tariff: []api.Step{{Upto: 10000000, Price: 0}}}, {Tariff: ten.Tariff, FeeFix: -1}, {Tariff: ten.Tariff, FeeFix: 100001}, {Tariff: ten.Tariff, FeeBp: 10001}, {Tariff: ten.Tariff, DebtBp: 10001}, {Tariff: ten.Tariff, Allowance: 2097152}},
	api.ErrForm:  {{Tariff: []api.Step{{Upto: 9999999, Price: 1}}}},
}

// TestBeginRefuses: each wrong thing alone, and with wrong ones behind it.
func TestBeginRefuses(t *testing.T) {
	disks := append([]int{0, 2049, 4096, 1 << 16}, strange...)
	counts := append([]int{51, 52, 256, 1 << 16}, strange...)
	for want, l := range wrongTerms {
		for _, terms := range l {
			for _, disk := range append(disks, 1, 2048) {
				for _, meters := range append(counts, 0, 50) {
					noBegin(t, terms, disk, meters, want)
				}
			}
		}
	}
	for _, disk := range disks {
		for _, meters := range append(counts, 0, 50) {
			noBegin(t, full, disk, meters, api.ErrSize)
		}
	}
	for _, meters := range counts {
		for _, disk := range []int{1, 200, 2048} {
			noBegin(t, full, disk, meters, api.ErrRange)
		}
	}
}

// P23.2

// noDo: is a step refused so, with no world and nothing told?
func noDo(t *testing.T, w api.World, a api.Act, want api.Errno) {
	t.Helper()
	if got, told, e := world.Do(w, a); e != want || told != (api.Told{}) || !same(got, api.World{}) {
		t.Fatalf("%#v at %v: %v, %+v, %v, want %v", a, w, got, told, e, want)
	}
}

// withMeters: the world, with the words of so many meters.
func withMeters(w api.World, n int) api.World {
	w.Pockets = nil
	for me := range n {
		words, _ := pocket.Make(me % 50)
		w.Pockets = append(w.Pockets, words)
	}
	return w
}

func TestDoRefuses(t *testing.T) {
	small := after(t, begun(t, full, 200, 2), register(1))
	kinds := append([]int{0, 8, 9, 256 + 1, 1<<16 + 1}, strange...)
	for _, w := range []api.World{small, withMeters(small, 50), withMeters(small, 51), withMeters(small, 1000), {}} {
		for _, kind := range kinds {
			for _, cut := range append([]int{-1, 0, 3, math.MaxInt}, wrongCuts...) {
				noDo(t, w, api.Act{Kind: kind, Meter: 1, A: 100, C: 7, Text: "1#", Cut: cut}, api.ErrForm)
			}
		}
		for _, a := range oneOfEach() {
			for _, cut := range wrongCuts {
				noDo(t, w, cutAt(a, cut), api.ErrForm)
			}
		}
	}
	for _, n := range []int{51, 52, 256, 1000} {
		for _, a := range oneOfEach() {
			for _, cut := range []int{-1, 0, 3, math.MaxInt} {
				noDo(t, withMeters(small, n), cutAt(a, cut), api.ErrSize)
				noDo(t, withMeters(api.World{}, n), cutAt(a, cut), api.ErrSize)
			}
		}
	}
	for _, a := range oneOfEach() {
		held(t, withMeters(small, 50), a)
	}
}

// TestDoGoesOn: whatever is wrong with a world else, it is told as a Code, and Do answers OK.
func TestDoGoesOn(t *testing.T) {
	wrong := func(change func(*api.World)) api.World {
		w := own(after(t, begun(t, full, 200, 2), register(1)))
		change(&w)
		return w
	}
	cases := []struct {
		w    api.World
		want [8]api.Errno // of each kind
	}{
		{api.World{}, [8]api.Errno{1: api.ErrSize, 2: api.ErrSize, 3: api.ErrSize, 4: api.ErrSize, 5: api.ErrSize, 6: api.ErrNoMeter, 7: api.ErrNoMeter}},
		{wrong(func(w *api.World) { w.Disk = nil }), [8]api.Errno{1: api.ErrSize, 2: api.ErrSize, 3: api.ErrSize, 4: api.ErrSize, 5: api.ErrSize, 6: api.ErrLength}},
		{wrong(func(w *api.World) { w.Disk = make([]uint32, 2049) }), [8]api.Errno{1: api.ErrSize, 2: api.ErrSize, 3: api.ErrSize, 4: api.ErrSize, 5: api.ErrSize, 6: api.ErrLength}},
		{wrong(func(w *api.World) { w.Disk[14] = 99 }), [8]api.Errno{1: api.ErrForm, 2: api.ErrForm, 3: api.ErrForm, 4: api.ErrForm, 5: api.ErrForm, 6: api.ErrLength}},
		{wrong(func(w *api.World) { w.Disk[1] = 6 }), [8]api.Errno{1: api.ErrState, 2: api.ErrState, 3: api.ErrState, 4: api.ErrState, 5: api.ErrState, 6: api.ErrLength}},
		{wrong(func(w *api.World) { w.Terms.FeeBp = 10001 }), [8]api.Errno{1: api.ErrRange, 2: api.ErrRange, 3: api.ErrRange, 4: api.ErrRange, 5: api.ErrRange, 6: api.ErrLength}},
		{wrong(func(w *api.World) { w.Oracle.Pairs = make([]api.Pair, 501) }), [8]api.Errno{1: api.ErrTwice, 2: api.ErrState, 3: api.ErrState, 4: api.ErrState, 6: api.ErrLength}},
		{wrong(func(w *api.World) { w.Pockets[1] = nil }), [8]api.Errno{1: api.ErrTwice, 6: api.ErrSize, 7: api.ErrSize}},
		{wrong(func(w *api.World) { w.Pockets[1] = w.Pockets[1][:11] }), [8]api.Errno{1: api.ErrTwice, 6: api.ErrSize, 7: api.ErrSize}},
		{wrong(func(w *api.World) { w.Pockets[1] = make([]uint32, 5000) }), [8]api.Errno{1: api.ErrTwice, 6: api.ErrSize, 7: api.ErrSize}},
		{wrong(func(w *api.World) { w.Pockets[1][0] = 0 }), [8]api.Errno{1: api.ErrTwice, 6: api.ErrBlank, 7: api.ErrBlank}},
		{wrong(func(w *api.World) { w.Pockets[1][2] = 50 }), [8]api.Errno{1: api.ErrTwice, 6: api.ErrState, 7: api.ErrState}},
		{wrong(func(w *api.World) { w.Pockets = w.Pockets[:1] }), [8]api.Errno{1: api.ErrTwice, 6: api.ErrNoMeter, 7: api.ErrNoMeter}},
		// What is wrong at one meter is nothing to another.
		{wrong(func(w *api.World) { w.Pockets[0] = nil }), [8]api.Errno{1: api.ErrTwice, 6: api.ErrLength}},
	}
	for _, c := range cases {
		for _, a := range oneOfEach() {
			_, told, _ := held(t, c.w, a)
			if told.Code != c.want[a.Kind] {
				t.Errorf("%#v at %v: %+v, want the Code %v", a, c.w, told, c.want[a.Kind])
			}
			if told.Code != api.OK {
				refuses(t, c.w, a, told.Code)
			}
		}
	}
}

// P23.3

// behindWrites: words behind all of some writes.
func behindWrites(words []uint32, l []api.Write) []uint32 {
	words = slices.Clone(words)
	for _, w := range l {
		words[w.At] = w.Word
	}
	return words
}

// TestServer: each step at the server is the call that the chapter names, with the numbers in their places.
func TestServer(t *testing.T) {
	w := after(t, begun(t, full, 600, 3), register(2), register(0), charge(2, 500, 100), sell(2, 2000, 3, 5))
	kept := func(a api.Act, l []api.Write, e api.Errno) {
		t.Helper()
		want := own(w)
		want.Disk = behindWrites(w.Disk, l)
		if got := tells(t, w, a, api.Told{}); e != api.OK || !same(got, want) {
			t.Errorf("%#v: %v, want %v", a, got, want)
		}
	}
	sold := func(a api.Act, l []api.Write, o api.Oracle, slip api.Receipt, e api.Errno) {
		t.Helper()
		want := own(w)
		want.Disk, want.Oracle = behindWrites(w.Disk, l), o
		got := tells(t, w, a, api.Told{Text: slip.Token, Bill: slip.Bill})
		if e != api.OK || len(o.Pairs) != 2 || !same(got, want) {
			t.Errorf("%#v: %v, want %v", a, got, want)
		}
	}
	l, e := vend.Register(w.Terms, w.Disk, 1)
	kept(register(1), l, e)
	l, e = vend.Register(w.Terms, w.Disk, 49) // one more than there are meters
	kept(register(49), l, e)
	l, e = vend.Charge(w.Terms, w.Disk, 2, api.Debt{Owed: 700, Bp: 30})
	kept(charge(2, 700, 30), l, e)
	l, o, slip, e := vend.Sell(w.Terms, w.Disk, w.Oracle, 2, 1234, 7, 99)
	sold(sell(2, 1234, 7, 99), l, o, slip, e)
	l, o, slip, e = vend.Grant(w.Terms, w.Disk, w.Oracle, 2, 8, 98)
	sold(grant(2, 8, 98), l, o, slip, e)
	l, o, slip, e = vend.Rekey(w.Terms, w.Disk, w.Oracle, 2, 97)
	sold(rekey(2, 97), l, o, slip, e)
}

// TestServerTells: bills, digits and pairs, written out.
func TestServerTells(t *testing.T) {
	w := begun(t, full, 600, 1)
	w = tells(t, w, register(3), api.Told{})
	w = tells(t, w, charge(3, 40, 250), api.Told{})
	w = tells(t, w, sell(3, 990, 2, 65535), api.Told{Text: digitsOf(0, 1, 71, 65535), Bill: api.Bill{Id: 1, Tender: 990, Debt: 42, Fee: 17, Price: 920, Change: 11, Units: 71}})
	w = tells(t, w, grant(3, 2, 0), api.Told{Text: digitsOf(0, 2, 25, 0), Bill: api.Bill{Id: 2, Units: 25}})
	w = tells(t, w, rekey(3, 77), api.Told{Text: digitsOf(2, 3, 1, 77), Bill: api.Bill{Id: 3}})
	want := []api.Pair{{Meter: 3, Body: bodyOf(0, 1, 71), Tag: 65535}, {Meter: 3, Body: bodyOf(0, 2, 25)}, {Meter: 3, Body: bodyOf(2, 3, 1), Tag: 77}}
	if !slices.Equal(w.Oracle.Pairs, want) {
		t.Errorf("tagged were %v, want %v", w.Oracle.Pairs, want)
	}
}

// TestServerRefuses: each refusal is told as its Code, and all stays as it was, the oracle too.
func TestServerRefuses(t *testing.T) {
	w := after(t, begun(t, full, 600, 2), register(1), sell(1, 1000, 5, 3), grant(1, 5, 4))
	cases := map[api.Errno][]api.Act{
		api.ErrTwice:   {register(1), grant(1, 5, 9)},
		api.ErrRange:   {register(-1), register(50), charge(1, 0, 0), charge(1, 1000000001, 0), charge(1, 1, 10001), charge(1, 1, -1), sell(1, 1000, 2400, 9), sell(1, 1000, -1, 9), sell(1, 1000, 5, 65536), sell(1, 1000, 5, -1), grant(1, -1, 9), grant(1, 2400, 9), grant(1, 6, 65536), rekey(1, -1), rekey(1, 65536)},
		api.ErrNoMeter: {sell(0, 1000, 5, 3), grant(0, 5, 3), rekey(0, 3), charge(0, 5, 5), sell(2, 1000, 5, 3), sell(-1, 1000, 5, 3), grant(50, 5, 3), rekey(math.MaxInt, 3), charge(math.MinInt, 5, 5)},
		api.ErrEarly:   {sell(1, 1000, 4, 9), grant(1, 4, 9)},
		api.ErrTender:  {sell(1, 0, 5, 9), sell(1, -1, 5, 9), sell(1, 100000001, 5, 9), sell(1, 4, 5, 9), sell(1, math.MaxInt, 5, 9)},
	}
	for want, l := range cases {
		for _, a := range l {
			refuses(t, w, a, want)
		}
	}
	// Where there is no room for the event, there is no token, and nothing is tagged.
	least := after(t, begun(t, full, 14, 1), register(0))
	for _, a := range []api.Act{register(1), sell(0, 1000, 5, 3), grant(0, 5, 4), rekey(0, 5), charge(0, 6, 6)} {
		refuses(t, least, a, api.ErrFull)
	}
	w.Oracle.Pairs = nil
	for i := range 500 {
		w.Oracle.Pairs = append(w.Oracle.Pairs, api.Pair{Meter: 7, Body: i})
	}
	for _, a := range []api.Act{sell(1, 1000, 5, 3), grant(1, 6, 4), rekey(1, 5)} {
		refuses(t, w, a, api.ErrFull)
	}
	free := w
	free.Terms.Allowance = 0
	free.Disk = after(t, begun(t, ten, 100, 1), register(1)).Disk
	refuses(t, free, grant(1, 5, 4), api.ErrNone)
}

// TestServerOther: fields that a kind does not have do nothing.
func TestServerOther(t *testing.T) {
	r := rand.New(rand.NewPCG(23, 1))
	w := after(t, begun(t, full, 600, 2), register(1), sell(1, 1000, 5, 3))
	clean := []api.Act{register(0), sell(1, 100, 6, 7), grant(1, 6, 7), rekey(1, 7), charge(1, 40, 250), key(1, "1#12345678901234567890#"), tick(1, 3)}
	has := []string{"", "", "ABC", "AC", "C", "AB", "T", "A"}
	for _, a := range clean {
		want, told := does(t, w, a)
		for range 50 {
			b := a
			for _, field := range []struct {
				name string
				at   *int
			}{{"A", &b.A}, {"B", &b.B}, {"C", &b.C}} {
				if !strings.Contains(has[a.Kind], field.name) {
					*field.at = strange[r.IntN(len(strange))]
				}
			}
			if !strings.Contains(has[a.Kind], "T") {
				b.Text = strings.Repeat("1#x", r.IntN(2000))
			}
			if got := tells(t, w, b, told); !same(got, want) {
				t.Fatalf("%#v makes %v, and %#v %v", b, got, a, want)
			}
		}
	}
}

// TestOracleOutlasts: what was tagged stays so, even if the power goes ahead of the first write.
func TestOracleOutlasts(t *testing.T) {
	w := after(t, begun(t, full, 600, 2), register(1))
	for _, a := range []api.Act{sell(1, 1000, 0, 7), grant(1, 0, 7), rekey(1, 7)} {
		whole, digits := sells(t, w, a)
		for cut := range 20 {
			got := tells(t, w, cutAt(a, cut), api.Told{Dead: true})
			if fmt.Sprint(got.Oracle) != fmt.Sprint(whole.Oracle) || len(got.Oracle.Pairs) != 1 {
				t.Fatalf("%#v cut at %d: tagged is %v, else %v", a, cut, got.Oracle, whole.Oracle)
			}
			if cut < 15 {
				a.C = 60000 + cut
				if _, again := sells(t, got, a); again != digits {
					t.Fatalf("%#v behind a cut at %d: %s, else %s", a, cut, again, digits)
				}
				a.C = 7
			}
		}
	}
}

// P23.4

// threeSold: a world of three meters, the digits of three tokens of the meter 1 (10, 20 and 30 units), and
// those of a change of its key and of a token of 40 units under the new one.
func threeSold(t *testing.T) (api.World, []string) {
	t.Helper()
	w := after(t, begun(t, ten, 600, 3), register(1))
	var l []string
	for _, a := range []api.Act{sell(1, 100, 0, 7), sell(1, 200, 0, 8), sell(1, 300, 0, 9), rekey(1, 10), sell(1, 400, 0, 11)} {
		next, digits := sells(t, w, a)
		w, l = next, append(l, digits)
	}
	return w, l
}

// meterAt a place, as its words tell.
func meterAt(t *testing.T, w api.World, place int) api.Meter {
	t.Helper()
	m, e := pocket.Boot(w.Pockets[place])
	if e != api.OK {
		t.Fatalf("the meter at %d of %v: %v", place, w, e)
	}
	return m
}

func TestKeyPlaces(t *testing.T) {
	w, l := threeSold(t)
	for _, place := range append([]int{3, 4, 49, 50}, strange...) {
		// No such place goes ahead of all that is wrong with the text.
		for _, text := range []string{l[0] + "#", "", "1", "#", strings.Repeat("1", 2001), "x#"} {
			refuses(t, w, key(place, text), api.ErrNoMeter)
			refuses(t, withMeters(w, 0), key(max(place, 0), text), api.ErrNoMeter)
		}
	}
	// Of the place it hangs, not of the number of the meter whose words stand there.
	moved := own(w)
	moved.Pockets = [][]uint32{w.Pockets[1], w.Pockets[0]}
	got := tells(t, moved, key(0, l[0]+"#"), api.Told{Added: 10})
	if got.Pockets[1] == nil || !slices.Equal(got.Pockets[1], w.Pockets[0]) || meterAt(t, got, 0) != (api.Meter{Me: 1, Credit: 10, Window: api.Window{High: 1, Bits: 1}}) {
		t.Errorf("%v of %v", got, moved)
	}
	tells(t, moved, key(1, l[0]+"#"), api.Told{Code: api.ErrTag})
}

func TestKeySizes(t *testing.T) {
	w, l := threeSold(t)
	for _, n := range []int{2001, 2002, 4000, 1 << 16} {
		refuses(t, w, key(1, l[0]+"#"+strings.Repeat(" ", n-21)), api.ErrSize)
		refuses(t, w, key(1, strings.Repeat("1", n)), api.ErrSize)
	}
	tells(t, w, key(1, l[0]+"#"+strings.Repeat(" ", 1979)), api.Told{Added: 10})
	// Bytes, not characters.
	refuses(t, w, key(1, l[0]+"#"+strings.Repeat("\u00a0", 990)), api.ErrSize)
	tells(t, w, key(1, l[0]+"#"+strings.Repeat("\u00a0", 989)), api.Told{Added: 10})
	for _, text := range []string{"", " ", "1", l[0], "#", "###", "1*#", l[0] + "x", strings.Repeat("1", 31), strings.Repeat("7", 2000), strings.Repeat("#", 2000), "-\u00a0 #"} {
		refuses(t, w, key(1, text), api.ErrNone)
	}
}

// TestKeyEntries: one by one; the last one's Code, and what all of them added.
func TestKeyEntries(t *testing.T) {
	w, l := threeSold(t)
	one, two, three, change, four := l[0]+"#", l[1]+"#", l[2]+"#", l[3]+"#", l[4]+"#"
	never := digitsOf(0, 9, 9, 9) + "#"
	slip := digitsOf(0, 1, 10, 7)[:19] + "x#"
	cases := []struct {
		text   string
		added  int
		code   api.Errno
		meter  api.Meter // behind it
		behind string    // what follows the last entry is not entered
	}{
		{one, 10, api.OK, api.Meter{Me: 1, Credit: 10, Window: api.Window{High: 1, Bits: 1}}, ""},
		{one + two, 30, api.OK, api.Meter{Me: 1, Credit: 30, Window: api.Window{High: 2, Bits: 3}}, ""},
		{three + one + two, 60, api.OK, api.Meter{Me: 1, Credit: 60, Window: api.Window{High: 3, Bits: 7}}, ""},
		{one + one, 10, api.ErrUsed, api.Meter{Me: 1, Credit: 10, Window: api.Window{High: 1, Bits: 1}}, ""},
		{one + one + two, 30, api.OK, api.Meter{Me: 1, Credit: 30, Window: api.Window{High: 2, Bits: 3}}, ""},
		{one + "x#", 10, api.ErrForm, api.Meter{Me: 1, Credit: 10, Window: api.Window{High: 1, Bits: 1}}, ""},
		{"x#" + one, 10, api.OK, api.Meter{Me: 1, Credit: 10, Window: api.Window{High: 1, Bits: 1}}, ""},
		{one + slip + two + "#", 30, api.OK, api.Meter{Me: 1, Credit: 30, Window: api.Window{High: 2, Bits: 3}}, ""},
		{strings.Repeat("1", 31) + "#", 0, api.ErrForm, api.Meter{Me: 1}, ""},
		{"12#", 0, api.ErrLength, api.Meter{Me: 1}, ""},
		{"12#x#", 0, api.ErrForm, api.Meter{Me: 1}, ""},
		{"x#12#", 0, api.ErrLength, api.Meter{Me: 1}, ""},
		{"00000000000000000001#", 0, api.ErrCheck, api.Meter{Me: 1}, ""},
		{one + "12#", 10, api.ErrLength, api.Meter{Me: 1, Credit: 10, Window: api.Window{High: 1, Bits: 1}}, ""},
		{never, 0, api.ErrTag, api.Meter{Me: 1, Bad: 1}, ""},
		{never + never, 0, api.ErrTag, api.Meter{Me: 1, Bad: 2}, ""},
		{never + never + one, 10, api.OK, api.Meter{Me: 1, Credit: 10, Window: api.Window{High: 1, Bits: 1}}, ""},
		{one + never, 10, api.ErrTag, api.Meter{Me: 1, Credit: 10, Bad: 1, Window: api.Window{High: 1, Bits: 1}}, ""},
		// What is no token is no try; five tries lock the keypad, for all that comes behind.
		{strings.Repeat("x#12#", 5) + never, 0, api.ErrTag, api.Meter{Me: 1, Bad: 1}, ""},
		{strings.Repeat(never, 4) + one, 10, api.OK, api.Meter{Me: 1, Credit: 10, Window: api.Window{High: 1, Bits: 1}}, ""},
		{strings.Repeat(never, 5), 0, api.ErrTag, api.Meter{Me: 1, Lock: 30}, ""},
		{strings.Repeat(never, 5) + one, 0, api.ErrLocked, api.Meter{Me: 1, Lock: 30}, ""},
		{one + strings.Repeat(never, 5) + two + "x#", 10, api.ErrForm, api.Meter{Me: 1, Credit: 10, Lock: 30, Window: api.Window{High: 1, Bits: 1}}, ""},
		// A new key holds for what comes behind it.
		{one + four + change + four + two, 50, api.ErrOldKey, api.Meter{Me: 1, Rev: 1, Credit: 50, Window: api.Window{High: 5, Bits: 1<<4 + 3}}, ""},
		{one + change + two + four, 50, api.OK, api.Meter{Me: 1, Rev: 1, Credit: 50, Window: api.Window{High: 5, Bits: 1<<4 + 3}}, ""},
		{digitsOf(3, 1, 0, 0) + "#", 0, api.OK, api.Meter{Me: 1}, ""},
		{digitsOf(3, 1, 0, 0) + "#" + one, 10, api.OK, api.Meter{Me: 1, Credit: 10, Window: api.Window{High: 1, Bits: 1}}, ""},
		{one, 10, api.OK, api.Meter{Me: 1, Credit: 10, Window: api.Window{High: 1, Bits: 1}}, l[1]},
		{one, 10, api.OK, api.Meter{Me: 1, Credit: 10, Window: api.Window{High: 1, Bits: 1}}, "x"},
	}
	for _, c := range cases {
		text := c.text + c.behind
		got := tells(t, w, key(1, text), api.Told{Code: c.code, Added: c.added})
		if is := meterAt(t, got, 1); is != c.meter {
			t.Errorf("%q makes %+v, want %+v", text, is, c.meter)
		}
		want := own(w)
		want.Pockets[1] = got.Pockets[1]
		if !same(got, want) {
			t.Errorf("%q makes %v of %v", text, got, w)
		}
		held(t, w, key(1, text))
	}
}

// TestKeyTaken: what is pressed as the keypad bears it, taken back, and parted.
func TestKeyTaken(t *testing.T) {
	w, l := threeSold(t)
	var arabic, parted strings.Builder
	for i, r := range l[0] {
		arabic.WriteRune(r - '0' + 0x660)
		parted.WriteString(l[0][i : i+1])
		parted.WriteString([]string{"", " ", "-", "\u00a0", "5*"}[i%5])
	}
	for _, text := range []string{arabic.String() + "#", parted.String() + "#", "#" + l[0] + "##", "***" + l[0] + "#", l[0] + "9*#"} {
		tells(t, w, key(1, text), api.Told{Added: 10})
	}
	tells(t, w, key(1, l[0]+"\xff#"), api.Told{Code: api.ErrForm})
	// What one step pressed and did not end is not there in the next one.
	w = after(t, w, key(1, "x#12"))
	tells(t, w, key(1, l[0]+"#"), api.Told{Added: 10})
}

// TestKeyMany: as many entries as a text may have.
func TestKeyMany(t *testing.T) {
	w, l := threeSold(t)
	_, _, e := held(t, w, key(1, strings.Repeat("1#", 1000)))
	if e != api.OK {
		t.Error(e)
	}
	text := strings.Repeat(l[0]+"#"+digitsOf(3, 1, 0, 0)+"#", 47)
	tells(t, w, key(1, text), api.Told{Added: 10})
	tells(t, w, key(1, text+l[0]+"#"), api.Told{Code: api.ErrUsed, Added: 10})
	// Each entry writes.
	var all strings.Builder
	many := own(w)
	many.Oracle.Pairs = nil
	for id := 1; id <= 95; id++ {
		many.Oracle.Pairs = append(many.Oracle.Pairs, api.Pair{Meter: 1, Body: bodyOf(0, id, id), Tag: id})
		all.WriteString(digitsOf(0, id, id, id) + "#")
	}
	got := tells(t, many, key(1, all.String()), api.Told{Added: 95 * 48})
	if m := meterAt(t, got, 1); m != (api.Meter{Me: 1, Credit: 95 * 48, Window: api.Window{High: 95, Bits: math.MaxUint64}}) {
		t.Errorf("%+v", m)
	}
	for cut := range 95*7 + 3 {
		got := tells(t, many, cutAt(key(1, all.String()), cut), api.Told{Dead: true})
		if m := meterAt(t, got, 1); m.Window.High != min(cut, 95*7)/7 {
			t.Fatalf("cut at %d: %+v", cut, m)
		}
	}
}

// TestKeyCut: the writes of all entries are one row, and the power may go anywhere in it.
func TestKeyCut(t *testing.T) {
	w, l := threeSold(t)
	text := l[0] + "#" + "x#" + digitsOf(0, 9, 9, 9) + "#" + l[0] + "#" + l[1] + "#"
	// The meter behind each entry that writes.
	rows := []api.Meter{
		{Me: 1},
		{Me: 1, Credit: 10, Window: api.Window{High: 1, Bits: 1}},
		{Me: 1, Credit: 10, Bad: 1, Window: api.Window{High: 1, Bits: 1}},
		{Me: 1, Credit: 30, Window: api.Window{High: 2, Bits: 3}},
	}
	for cut := range 25 {
		got := tells(t, w, cutAt(key(1, text), cut), api.Told{Dead: true})
		if m := meterAt(t, got, 1); m != rows[min(cut/7, 3)] {
			t.Errorf("cut at %d: %+v", cut, m)
		}
		// What was keyed once more behind the cut is whole.
		again, told := does(t, got, key(1, text))
		if m := meterAt(t, again, 1); m.Credit != 30 || told.Added != 30-meterAt(t, got, 1).Credit {
			t.Errorf("cut at %d: %+v, %+v", cut, m, told)
		}
	}
}

// P23.5

func TestTick(t *testing.T) {
	w, l := threeSold(t)
	w = after(t, w, key(1, l[2]+"#"+digitsOf(0, 9, 9, 9)+"#"))
	for _, c := range []struct {
		load, burned int
		code         api.Errno
	}{{0, 0, api.OK}, {1, 1, api.OK}, {29, 29, api.OK}, {30, 30, api.OK}, {31, 30, api.OK}, {1000, 30, api.OK}, {1001, 0, api.ErrRange}, {-1, 0, api.ErrRange}, {math.MinInt, 0, api.ErrRange}, {math.MaxInt, 0, api.ErrRange}, {1 << 32, 0, api.ErrRange}} {
		got := tells(t, w, tick(1, c.load), api.Told{Code: c.code, Added: c.burned})
		want := own(w)
		want.Pockets[1] = got.Pockets[1]
		if m := meterAt(t, got, 1); m != (api.Meter{Me: 1, Credit: 30 - c.burned, Bad: 1, Window: api.Window{High: 3, Bits: 1}}) || !same(got, want) {
			t.Errorf("a load of %d: %+v, %v", c.load, m, got)
		}
		// At a meter without credit.
		tells(t, w, tick(0, c.load), api.Told{Code: c.code})
	}
	for _, place := range append([]int{3, 4, 49, 50}, strange...) {
		for _, load := range []int{0, 5, 1001, -1} {
			refuses(t, w, tick(place, load), api.ErrNoMeter)
			refuses(t, withMeters(w, 0), tick(max(place, 0), load), api.ErrNoMeter)
		}
	}
}

// TestTickUnlocks: tick by tick, also where nothing is burned.
func TestTickUnlocks(t *testing.T) {
	w, l := threeSold(t)
	w = after(t, w, key(1, strings.Repeat(digitsOf(0, 9, 9, 9)+"#", 5)))
	for range 30 {
		refuses(t, w, key(1, l[0]+"#"), api.ErrLocked)
		w = tells(t, w, tick(1, 9), api.Told{})
	}
	w = tells(t, w, key(1, l[0]+"#"), api.Told{Added: 10})
	// Of the place it hangs here, too.
	w.Pockets[0], w.Pockets[1] = w.Pockets[1], w.Pockets[0]
	tells(t, w, tick(0, 3), api.Told{Added: 3})
	tells(t, w, tick(1, 3), api.Told{})
}

// P23.6

// TestCut: behind each number of writes, and behind more than there are.
func TestCut(t *testing.T) {
	w, l := threeSold(t)
	w.Terms.Allowance = 25
	w = after(t, w, key(1, l[2]+"#"))
	for _, c := range []struct {
		a      api.Act
		writes int
	}{
		{register(0), 15}, {sell(1, 100, 0, 77), 15}, {grant(1, 0, 77), 15}, {rekey(1, 77), 15}, {charge(1, 40, 250), 15},
		{key(1, l[0]+"#"), 7}, {key(1, l[0]+"#"+l[1]+"#"), 14}, {key(0, l[0]+"#"), 7}, {tick(1, 5), 7},
		// Nothing is written.
		{tick(0, 5), 0}, {tick(1, 0), 0}, {key(1, digitsOf(3, 1, 0, 0)+"#"), 0},
		// Refused.
		{register(1), 0}, {sell(1, 5, 0, 77), 0}, {charge(0, 1, 1), 0}, {key(1, l[2]+"#"), 0}, {key(1, ""), 0}, {key(7, l[0]+"#"), 0}, {tick(7, 5), 0}, {tick(1, -1), 0},
	} {
		whole, told := does(t, w, c.a)
		if told.Dead {
			t.Errorf("%#v: %+v", c.a, told)
		}
		seen := map[string]int{}
		for _, cut := range []int{0, 1, 2, 3, 4, 5, 6, 7, 8, 9, 10, 11, 12, 13, 14, 15, 16, 17, 100, 4096, 4097, math.MaxInt32, 1 << 32, math.MaxInt} {
			got := tells(t, w, cutAt(c.a, cut), api.Told{Dead: true})
			want, _, _ := slowly(w, cutAt(c.a, cut))
			if !same(got, want) || cut >= c.writes && !same(got, whole) {
				t.Errorf("%#v cut at %d: %v, want %v", c.a, cut, got, want)
			}
			if cut < c.writes && same(got, whole) {
				t.Errorf("%#v cut at %d: all was written", c.a, cut)
			}
			seen[fmt.Sprint(got.Disk, got.Pockets)]++
		}
		if c.writes == 0 && len(seen) != 1 {
			t.Errorf("%#v: wrote", c.a)
		}
	}
}

// TestCutWritesInOrder: what is on the disk behind each number of writes of a Register, written out.
func TestCutWritesInOrder(t *testing.T) {
	w := begun(t, ten, 20, 0)
	w.Disk = []uint32{0, 91, 92, 93, 94, 95, 96, 97, 98, 99, 100, 101, 102, 103, 104, 105, 106, 107, 108, 109}
	event := []uint32{0, 1, 2, 0, 0, 0, 0, 0, 0, 0, 0, 0, 0, 0, 0}
	for cut := range 17 {
		want := slices.Clone(w.Disk)
		copy(want, event[:min(cut, 14)+1])
		if cut >= 15 {
			want[0] = 13
		}
		got := tells(t, w, cutAt(register(2), cut), api.Told{Dead: true})
		if !slices.Equal(got.Disk, want) {
			t.Errorf("cut at %d: %v, want %v", cut, got.Disk, want)
		}
	}
}

// P23.7

// played: is a row of steps what they are one by one?
func played(t *testing.T, w api.World, l []api.Act) (api.World, []api.Told) {
	t.Helper()
	want := w
	var each []api.Told
	for _, a := range l {
		next, told := does(t, want, a)
		want, each = next, append(each, told)
	}
	got, all, e := world.Play(w, l)
	if e != api.OK || !same(got, want) || !slices.Equal(all, each) {
		t.Fatalf("%#v: %v, %+v, %v; want %v, %+v", l, got, all, e, want, each)
	}
	return got, all
}

// noPlay: are steps refused so, with no world and nothing told?
func noPlay(t *testing.T, w api.World, l []api.Act, want api.Errno) {
	t.Helper()
	if got, all, e := world.Play(w, l); e != want || len(all) != 0 || !same(got, api.World{}) {
		t.Fatalf("%d steps %#v: %v, %+v, %v, want %v", len(l), l[:min(len(l), 3)], got, all, e, want)
	}
}

func TestPlay(t *testing.T) {
	w := begun(t, ten, 200, 2)
	digits := digitsOf(0, 1, 10, 7)
	l := []api.Act{register(1), cutAt(sell(1, 100, 0, 7), 3), sell(1, 100, 0, 8), key(0, digits+"#"), cutAt(key(1, digits+"#"), 2), key(1, digits+"#"), key(1, digits+"#"), tick(1, 4), key(2, digits+"#")}
	_, all := played(t, w, l)
	want := []api.Told{{}, {Dead: true}, {Text: digits, Bill: api.Bill{Id: 1, Tender: 100, Price: 100, Units: 10}}, {Code: api.ErrTag}, {Dead: true}, {Added: 10}, {Code: api.ErrUsed}, {Added: 4}, {Code: api.ErrNoMeter}}
	if !slices.Equal(all, want) {
		t.Errorf("%+v, want %+v", all, want)
	}
	for n := range l {
		played(t, w, l[:n])
	}
	played(t, w, nil)
	played(t, w, []api.Act{})
	played(t, api.World{}, nil)
	played(t, api.World{}, oneOfEach())
}

// TestPlayNothing: where there is no step, there is none that Do would refuse.
func TestPlayNothing(t *testing.T) {
	w := withMeters(begun(t, ten, 20, 2), 51)
	for _, l := range [][]api.Act{nil, {}} {
		if got, all, e := world.Play(w, l); e != api.OK || len(all) != 0 || !same(got, w) {
			t.Errorf("%v, %v, %v", got, all, e)
		}
	}
}

func TestPlaySizes(t *testing.T) {
	w := begun(t, ten, 2048, 1)
	ticks := func(n int) []api.Act {
		l := make([]api.Act, n)
		for i := range l {
			l[i] = tick(0, i%5)
		}
		return l
	}
	played(t, w, ticks(119))
	if _, all := played(t, w, ticks(120)); len(all) != 120 {
		t.Errorf("%d were told", len(all))
	}
	for _, n := range []int{121, 122, 256, 5000} {
		noPlay(t, w, ticks(n), api.ErrSize)
		noPlay(t, w, make([]api.Act, n), api.ErrSize)
		noPlay(t, withMeters(w, 51), ticks(n), api.ErrSize)
		noPlay(t, api.World{}, ticks(n), api.ErrSize)
	}
	// As many events as a server keeps: the last of them is kept, too.
	sales := []api.Act{register(0)}
	for i := range 119 {
		sales = append(sales, sell(0, 10, 0, i))
	}
	got, _ := played(t, w, sales)
	refuses(t, got, sell(0, 10, 0, 1), api.ErrFull)
}

func TestPlayRefuses(t *testing.T) {
	w := begun(t, ten, 200, 2)
	good := []api.Act{register(1), sell(1, 100, 0, 7), key(1, "12#"), tick(0, 3), tick(7, 3)}
	for _, wrong := range []api.Act{{Kind: 0, Cut: -1}, {Kind: 8, Cut: -1}, cutAt(register(0), -2), cutAt(tick(0, 1), math.MinInt), {}} {
		for at := range len(good) + 1 {
			l := slices.Insert(slices.Clone(good), at, wrong)
			noPlay(t, w, l, api.ErrForm)
			if at > 0 {
				// Of the steps ahead of it the first one is refused already.
				noPlay(t, withMeters(w, 51), l, api.ErrSize)
			}
		}
		noPlay(t, withMeters(w, 51), []api.Act{wrong}, api.ErrForm)
	}
	for _, a := range oneOfEach() {
		noPlay(t, withMeters(w, 51), []api.Act{a}, api.ErrSize)
	}
	many := slices.Repeat([]api.Act{tick(0, 1)}, 119)
	noPlay(t, w, append(many, api.Act{Kind: 8, Cut: -1}), api.ErrForm)
}

// Drawn worlds, held against the chapter's words.

// hand: who knows what was told, and keys it, wrong or right.
type hand struct {
	*rand.Rand
	known []string
}

// digits that it would key.
func (h *hand) digits() string {
	if len(h.known) == 0 || h.IntN(12) == 0 {
		return digitsOf(h.IntN(4), h.IntN(9), h.IntN(99)*h.IntN(2), h.IntN(65536))
	}
	l := []byte(h.known[len(h.known)-1-h.IntN(min(len(h.known), 9))])
	if h.IntN(15) == 0 {
		l[h.IntN(20)] = byte('0' + h.IntN(10))
	}
	return string(l)
}

// text that it keys.
func (h *hand) text() string {
	var l strings.Builder
	for range 1 + h.IntN(9)/5*h.IntN(8) {
		switch h.IntN(14) {
		case 0:
			l.WriteString([]string{"x#", "12#", "#", "12345678901234567890#", "\xff", "*", "1", strings.Repeat("7", 31) + "#"}[h.IntN(8)])
		case 1:
			l.WriteString(h.digits())
		default:
			l.WriteString(h.digits() + "#")
		}
	}
	return l.String()
}

// act in a month, of which most are done.
func (h *hand) act(meters, month int) api.Act {
	meter := h.IntN(meters)
	a := []api.Act{
		register(meter), sell(meter, 1+h.IntN(2000), month, h.IntN(65536)), grant(meter, month, h.IntN(65536)), rekey(meter, h.IntN(65536)),
		charge(meter, 1+h.IntN(900), h.IntN(300)), tick(meter, h.IntN(40)), key(meter, h.text()),
		sell(meter, 1+h.IntN(900), month, h.IntN(65536)), tick(meter, 0), key(meter, h.text()), key(meter, h.text()), key(meter, h.text()),
	}[h.IntN(12)]
	if a.Kind == 4 && h.IntN(3) > 0 {
		a = tick(meter, 0)
	}
	if h.IntN(5) == 0 {
		a.Cut = h.IntN(18)
	}
	if h.IntN(20) == 0 {
		n := strange[h.IntN(len(strange))]
		*[]*int{&a.Meter, &a.A, &a.B, &a.C, &a.Cut, &a.Kind}[h.IntN(6)] = n
	}
	return a
}

// TestDrawnWorlds: steps one behind the other.
func TestDrawnWorlds(t *testing.T) {
	counts := map[string]int{}
	for seed := range uint64(150) {
		h := &hand{Rand: rand.New(rand.NewPCG(23, 100+seed))}
		terms := full
		terms.FeeBp, terms.DebtBp, terms.Allowance = h.IntN(300), h.IntN(10001), h.IntN(2)*30
		meters, month := 1+h.IntN(4), h.IntN(2000)
		w := begun(t, terms, 1+h.IntN(1500), meters)
		for range 150 {
			month += h.IntN(12) / 11
			a := h.act(meters+h.IntN(20)/19, month)
			next, told, e := held(t, w, a)
			counts[fmt.Sprint("Do ", int(e))]++
			if e != api.OK {
				continue
			}
			counts[fmt.Sprint(a.Kind, told.Dead, int(told.Code))]++
			w = next
			if told.Text != "" {
				h.known = append(h.known, told.Text)
			}
		}
	}
	for _, what := range []string{"Do 0", "Do 3", "1 false 0", "1 true 0", "1 false 21", "2 false 0", "2 true 0", "2 false 18", "2 false 19", "2 false 16", "3 false 0", "3 false 21", "4 false 0", "5 false 0", "5 false 18",
		"6 false 0", "6 true 0", "6 false 3", "6 false 8", "6 false 10", "6 false 11", "6 false 12", "6 false 14", "6 false 18", "6 false 22", "7 false 0", "7 true 0", "7 false 2", "7 false 18"} {
		if counts[what] < 5 {
			t.Errorf("the drawn worlds are too much alike: %s: %v", what, counts)
		}
	}
}

// TestDrawnPlays: rows of steps are what they are one by one.
func TestDrawnPlays(t *testing.T) {
	for seed := range uint64(60) {
		h := &hand{Rand: rand.New(rand.NewPCG(23, 1000+seed))}
		w := begun(t, full, 700, 3)
		var all []api.Act
		for range 4 {
			var l []api.Act
			for range h.IntN(121) {
				if a := h.act(3, 5); a.Kind >= 1 && a.Kind <= 7 && a.Cut >= -1 {
					l = append(l, a)
				}
			}
			next, told := played(t, w, l)
			w, all = next, append(all, l...)
			for _, s := range told {
				if s.Text != "" {
					h.known = append(h.known, s.Text)
				}
			}
		}
		// However a row is cut in two, it leads to the same world.
		all = all[:min(len(all), 120)]
		at := h.IntN(len(all) + 1)
		w = begun(t, full, 700, 3)
		whole, _ := played(t, w, all)
		half, _ := played(t, w, all[:at])
		if rest, _ := played(t, half, all[at:]); !same(rest, whole) {
			t.Errorf("%v, want %v", rest, whole)
		}
	}
}

// What comes of it.

// life of a world: what was told, what was added, and what was burned, meter by meter.
type life struct {
	hand
	world  api.World
	month  int
	told   []slip
	gained [3]int // all that was ever added, seen from the registers
	good   int    // tokens that were found to be good
}

// slip: what a customer was told.
type slip struct {
	meter, rev, units int
	token             string
	id, class         int
}

// soldTo a meter, in units, by the book.
func (l *life) soldTo(t *testing.T, meter int) int {
	b, e := vend.Load(l.world.Terms, l.world.Disk)
	if e != api.OK {
		t.Fatalf("no book: %v", e)
	}
	sum := 0
	for _, c := range b.Customers {
		for _, s := range c.Sold {
			if c.Account.Meter == meter && s.Class == api.Credit {
				sum += s.Amount
			}
		}
	}
	return sum
}

// live a step, and look what became of the registers.
func (l *life) live(t *testing.T, a api.Act) {
	t.Helper()
	var ahead [3]api.Meter
	for me := range ahead {
		ahead[me] = meterAt(t, l.world, me)
	}
	rev := l.revOf(t, a.Meter)
	next, told := does(t, l.world, a)
	wholeNext, _ := does(t, l.world, cutAt(a, -1))
	l.oldOrNew(t, a, next, wholeNext)
	l.world = next
	for me, was := range ahead {
		is := meterAt(t, next, me)
		if a.Kind == api.DoKey && me == a.Meter {
			l.gained[me] += is.Credit - was.Credit
			if is.Credit < was.Credit || a.Cut == -1 && told.Added != is.Credit-was.Credit {
				t.Fatalf("%#v: %+v, and the credit was %d, and is %d", a, told, was.Credit, is.Credit)
			}
		} else if a.Kind != api.DoTick && is != was {
			t.Fatalf("%#v makes the meter %+v of %+v", a, is, was)
		}
		if sold := l.soldTo(t, me); l.gained[me] > sold {
			t.Fatalf("%#v: %d were added to the meter %d, %d were sold to it", a, l.gained[me], me, sold)
		}
	}
	if told.Text != "" {
		l.known = append(l.known, told.Text)
		l.told = append(l.told, slip{a.Meter, rev, told.Bill.Units, told.Text, told.Bill.Id, int(a.Kind)})
	}
}

// revOf an account.
func (l *life) revOf(t *testing.T, meter int) int {
	b, _ := vend.Load(l.world.Terms, l.world.Disk)
	for _, c := range b.Customers {
		if c.Account.Meter == meter {
			return c.Account.Rev
		}
	}
	return 0
}

// oldOrNew: a step at the server is done or not, whole; the disk's other words do not count.
func (l *life) oldOrNew(t *testing.T, a api.Act, next, whole api.World) {
	t.Helper()
	book := func(w api.World) string {
		b, e := vend.Load(w.Terms, w.Disk)
		return fmt.Sprint(b, e)
	}
	if is := book(next); is != book(l.world) && is != book(whole) {
		t.Fatalf("%#v: the book is %s, was %s", a, is, book(l.world))
	}
	if a.Kind == api.DoKey && strings.Count(a.Text, "#") > 1 {
		return
	}
	for me := range next.Pockets {
		if is := meterAt(t, next, me); is != meterAt(t, l.world, me) && is != meterAt(t, whole, me) {
			t.Fatalf("%#v: the meter is %+v, was %+v", a, is, meterAt(t, l.world, me))
		}
	}
}

// goodOnce: what a customer was told is good at their meter, once, while its key holds and it is not too old.
func (l *life) goodOnce(t *testing.T, s slip) {
	t.Helper()
	w := l.world
	// When nobody keys for a while, no keypad stays locked.
	for range api.LockTicks {
		w = after(t, w, tick(s.meter, 0))
	}
	m := meterAt(t, w, s.meter)
	taken := s.id <= m.Window.High && m.Window.High-s.id < 64 && m.Window.Bits>>(m.Window.High-s.id)&1 == 1
	_, told := does(t, w, key(s.meter, s.token+"#"))
	want := api.Told{Added: s.units}
	switch {
	case s.rev < m.Rev:
		want = api.Told{Code: api.ErrOldKey}
	case s.rev > m.Rev:
		want = api.Told{Code: api.ErrTag}
	case m.Window.High-s.id >= 64:
		want = api.Told{Code: api.ErrOld}
	case taken:
		want = api.Told{Code: api.ErrUsed}
	case s.class == api.DoRekey:
		want.Added = 0
	}
	if told != want {
		t.Fatalf("%+v at %+v: %+v, want %+v", s, m, told, want)
	}
	if want.Code != api.OK {
		return
	}
	l.good++
	w = tells(t, w, key(s.meter, s.token+"#"), want)
	again := api.ErrUsed
	if s.class == api.DoRekey {
		again = api.ErrOldKey // the key from before is no more
	}
	refuses(t, w, key(s.meter, s.token+"#"), again)
}

// TestLives: whatever is keyed, wherever, how often and in what order, and whenever the power goes.
func TestLives(t *testing.T) {
	good := 0
	for seed := range uint64(25) {
		l := &life{hand: hand{Rand: rand.New(rand.NewPCG(23, 2000+seed))}, world: begun(t, full, 1500, 3)}
		l.world = after(t, l.world, register(0), register(1), register(2))
		for range 120 {
			l.month += l.IntN(12) / 11
			a := l.act(3, l.month)
			if a.Kind < 1 || a.Kind > 7 || a.Cut < -1 {
				continue
			}
			l.live(t, a)
			if len(l.told) > 0 {
				l.goodOnce(t, l.told[len(l.told)-1-l.IntN(min(len(l.told), 5))])
			}
		}
		good += l.good
	}
	if good < 200 {
		t.Errorf("%d tokens were good", good)
	}
}

// TestNoNumberTwice: all tokens of one meter, keyed again and again while the power goes, add just what was sold.
func TestNoNumberTwice(t *testing.T) {
	r := rand.New(rand.NewPCG(23, 3))
	for range 10 {
		w := after(t, begun(t, ten, 2048, 2), register(0), register(1))
		var digits []string
		sold := 0
		for range 40 {
			tender := 10 + r.IntN(1000)
			a := sell(1, tender, 0, r.IntN(65536))
			for r.IntN(3) == 0 {
				w = after(t, w, cutAt(a, r.IntN(15)))
			}
			next, told := sells(t, w, a)
			w, digits, sold = next, append(digits, told), sold+tender/10
		}
		for range 300 {
			w = after(t, w, cutAt(key(r.IntN(2), digits[r.IntN(40)]+"#"), r.IntN(9)), tick(0, 0), tick(1, 0))
		}
		for range 61 {
			w = after(t, w, tick(0, 0), tick(1, 0))
		}
		for _, d := range digits {
			w = after(t, w, key(1, d+"#"), key(1, d+"#"))
		}
		if m := meterAt(t, w, 1); m.Credit != sold {
			t.Fatalf("%d were sold, %d added", sold, m.Credit)
		}
		if m := meterAt(t, w, 0); m.Credit != 0 {
			t.Fatalf("%d were added where nothing was sold", m.Credit)
		}
	}
}

// Lists that are handed in stay; what comes out is new.

// withRoom: a list like this one, with some more behind it as spare room.
func withRoom[T any](l []T, more ...T) []T {
	return append(append(make([]T, 0, len(l)+len(more)), l...), more...)[:len(l)]
}

// roomy: a world like this one, with spare room behind all its lists; and what tells all its memory.
func roomy(w api.World) (api.World, func() string) {
	w.Terms.Tariff = withRoom(w.Terms.Tariff, api.Step{Upto: 7, Price: 8}, api.Step{Upto: 9})
	w.Disk = withRoom(w.Disk, 7, 8, 9)
	w.Oracle.Pairs = withRoom(w.Oracle.Pairs, api.Pair{Meter: 77}, api.Pair{Meter: 78})
	w.Pockets = withRoom(w.Pockets, []uint32{1, 2, 3}, []uint32{4})
	for i, words := range w.Pockets {
		w.Pockets[i] = withRoom(words, 5, 6, 7)
	}
	return w, func() string {
		tariff, pairs := w.Terms.Tariff, w.Oracle.Pairs
		all := fmt.Sprint(w, tariff[:cap(tariff)], w.Disk[:cap(w.Disk)], pairs[:cap(pairs)])
		for _, words := range w.Pockets[:cap(w.Pockets)] {
			all += fmt.Sprint(words[:cap(words)])
		}
		return all
	}
}

// drawnWorld: one that has lived for a while, and its hand.
func drawnWorld(t *testing.T, seed uint64) (api.World, *hand) {
	t.Helper()
	h := &hand{Rand: rand.New(rand.NewPCG(23, 3000+seed))}
	w := after(t, begun(t, full, 800, 3), register(0), register(1), register(2))
	for range 30 {
		a := h.act(3, 7)
		next, told, e := world.Do(w, a)
		if e != api.OK {
			continue
		}
		w = next
		if told.Text != "" {
			h.known = append(h.known, told.Text)
		}
	}
	return w, h
}

// someActs at a world, of all kinds, done and refused.
func someActs(h *hand) []api.Act {
	l := []api.Act{{Kind: 8, Cut: -1}, cutAt(tick(0, 1), -2)}
	for meter := range 4 {
		for _, a := range []api.Act{register(meter), sell(meter, 1+h.IntN(900), 7, 9), grant(meter, 8, 9), rekey(meter, 9), charge(meter, 5, 5), key(meter, h.text()), key(meter, h.digits()+"#"), tick(meter, 5)} {
			l = append(l, a, cutAt(a, h.IntN(18)))
		}
	}
	return l
}

// TestListsStay: the spare room too.
func TestListsStay(t *testing.T) {
	for seed := range uint64(20) {
		drawn, h := drawnWorld(t, seed)
		w, memory := roomy(drawn)
		was := memory()
		acts := someActs(h)
		spare := append(slices.Clone(acts[2:50]), api.Act{Kind: 77}, api.Act{Kind: 78})
		row := fmt.Sprint(spare)
		for _, a := range acts {
			world.Do(w, a)
			if now := memory(); now != was {
				t.Fatalf("%#v made %s of %s", a, now, was)
			}
		}
		world.Play(w, spare[:48])
		world.Play(w, spare)
		if now := memory(); now != was || fmt.Sprint(spare) != row {
			t.Fatalf("a row of steps made %s of %s", now, was)
		}
		world.Begin(w.Terms, 20, 2)
		if now := memory(); now != was {
			t.Fatalf("a beginning made %s of %s", now, was)
		}
	}
}

// spoil a list with its spare room.
func spoil[T any](l []T, with T) {
	l = l[:cap(l)]
	for i := range l {
		l[i] = with
	}
}

// spoilWorld: all lists of it.
func spoilWorld(w api.World) {
	spoil(w.Terms.Tariff, api.Step{Upto: -1})
	spoil(w.Disk, 0xdeadbeef)
	spoil(w.Oracle.Pairs, api.Pair{Meter: -1})
	for _, p := range w.Pockets[:cap(w.Pockets)] {
		spoil(p, 0xdeadbeef)
	}
	spoil(w.Pockets, nil)
}

// TestNewMemory: what is done to an answer changes nothing that was handed in, and no other answer.
func TestNewMemory(t *testing.T) {
	for seed := range uint64(20) {
		drawn, h := drawnWorld(t, seed)
		w, memory := roomy(drawn)
		was := memory()
		for _, a := range someActs(h) {
			first, told, _ := world.Do(w, a)
			want := fmt.Sprint(first)
			second, _, _ := world.Do(w, a)
			spoilWorld(second)
			if fmt.Sprint(first) != want || memory() != was {
				t.Fatalf("%#v shares memory", a)
			}
			third, again, _ := world.Do(w, a)
			if fmt.Sprint(third) != want || told != again {
				t.Fatalf("%#v: %v, then %v", a, first, third)
			}
		}
		acts := someActs(h)[2:50]
		first, all, _ := world.Play(w, acts)
		want := fmt.Sprint(first, all)
		second, others, _ := world.Play(w, acts)
		spoilWorld(second)
		spoil(others, api.Told{Added: -1})
		if fmt.Sprint(first, all) != want || memory() != was {
			t.Fatal("a row of steps shares memory")
		}
		none, _, _ := world.Play(w, nil)
		spoilWorld(none)
		begun, _ := world.Begin(w.Terms, 20, 3)
		spoilWorld(begun)
		if memory() != was {
			t.Fatal("a beginning shares memory with its terms, or a row of no steps with its world")
		}
	}
}

// TestNoListShared: the words of a world's meters are lists of their own, spare room too.
func TestNoListShared(t *testing.T) {
	drawn, _ := drawnWorld(t, 99)
	began, _ := world.Begin(full, 12, 3)
	same, _, _ := world.Do(drawn, tick(0, 0))
	for _, w := range []api.World{began, same} {
		was := fmt.Sprint(w.Pockets[1:], w.Disk)
		spoil(w.Pockets[0], 0xdeadbeef)
		if now := fmt.Sprint(w.Pockets[1:], w.Disk); now != was {
			t.Errorf("%s, was %s", now, was)
		}
		was = fmt.Sprint(w.Pockets)
		spoil(w.Disk, 0xdeadbeef)
		if now := fmt.Sprint(w.Pockets); now != was {
			t.Errorf("%s, was %s", now, was)
		}
	}
}

// TestOneListTwice: words that a world has twice (what was handed in may be so) are two meters behind a step.
func TestOneListTwice(t *testing.T) {
	w, l := threeSold(t)
	w.Pockets[0] = w.Pockets[1]
	w.Disk = w.Pockets[1]
	got := tells(t, w, key(1, l[0]+"#"), api.Told{Added: 10})
	if m := meterAt(t, got, 0); m != (api.Meter{Me: 1}) || !slices.Equal(got.Disk, w.Disk) {
		t.Errorf("%+v, %v", m, got)
	}
}

func TestManyAtOnce(t *testing.T) {
	w, h := drawnWorld(t, 100)
	acts := someActs(h)
	var want []string
	for _, a := range acts {
		want = append(want, fmt.Sprint(world.Do(w, a)))
	}
	row := acts[2:50]
	whole := fmt.Sprint(world.Play(w, row))
	var group sync.WaitGroup
	for range 8 {
		group.Go(func() {
			for i, a := range acts {
				if got := fmt.Sprint(world.Do(w, a)); got != want[i] {
					t.Errorf("%#v: %s, want %s", a, got, want[i])
				}
			}
			if got := fmt.Sprint(world.Play(w, row)); got != whole {
				t.Errorf("%s, want %s", got, whole)
			}
		})
	}
	group.Wait()
}
